/-
  Contracts of chapter 3's model: mirrors that are made.
-/
import Derived.Test.YtadppilldijijakMirV
import Derived.Test.YtadppilldijijakCopy
import Derived.Test.YtadppilldijijakApp
namespace Go.Proofs.Ytadppilldijijak
open Go.ChangeShapes Go.WideShapes Go.ChangeAt Go.RowKit
set_option linter.unusedVariables false

def mirRows (xs : List Int) : List (List Int) := (List.range 4).map fun i => xs.set i 0
def badR (c : Int) : MMirrorResult := ⟨c, ⟨0, []⟩⟩
def mirrorOfR (q : Int) (xs : List Int) : MMirrorResult := if isQ q then (if xs.length = 4 then (if okV q xs = true then ⟨0, ⟨q, mirRows xs⟩⟩ else badR 3) else badR 1) else badR 3
theorem sl_mirRows {xs : List Int} (h : xs.length = 4) : sl (mirRows xs) = 16 := by simp [mirRows, List.range_succ, sl, h]
theorem mirrorOfR_cnt (q : Int) (xs : List Int) : cntMirrorResult (mirrorOfR q xs) ≤ 268435456 := by
  unfold mirrorOfR
  split
  · split
    · split
      · show sl (mirRows xs) ≤ _
        rw [sl_mirRows (by assumption)]; omega
      · show sl [] ≤ _; simp [sl]
    · show sl [] ≤ _; simp [sl]
  · show sl [] ≤ _; simp [sl]
end Go.Proofs.Ytadppilldijijak
