/-
  Contracts of chapter 3's model: mirrors that are made.
-/
import Derived.Test.YtcnbkdpmcohlgamMirV
import Derived.Test.YtcnbkdpmcohlgamCopy
import Derived.Test.YtcnbkdpmcohlgamApp
namespace Go.Proofs.Ytcnbkdpmcohlgam
open Go.ChangeShapes Go.WideShapes Go.ChangeAt Go.RowKit
set_option linter.unusedVariables false

def mirRows (xs : List Int) : List (List Int) := (List.range 4).map fun i => xs.set i 0
def badR (c : Int) : MMirrorResult := ⟨c, ⟨0, []⟩⟩
def mirrorOfR (q : Int) (xs : List Int) : MMirrorResult := if isQ q then (if xs.length = 4 then (if okV q xs = true then ⟨0, ⟨q, mirRows xs⟩⟩ else badR 3) else badR 1) else badR 3
theorem sl_mirRows {xs : List Int} (h : xs.length = 4) : sl (mirRows xs) = 16 := by simp [mirRows, List.range_succ, sl, h]
theorem mirrorOfR_cnt (q : Int) (xs : List Int) : cntMirrorResult (mirrorOfR q xs) ≤ 268435456 := by
  unfold mirrorOfR
  split
  · split
    · split
      · show sl (mirRows xs) ≤ _
        rw [sl_mirRows (by assumption)]; omega
      · show sl [] ≤ _; simp [sl]
    · show sl [] ≤ _; simp [sl]
  · show sl [] ≤ _; simp [sl]
theorem spec_l3Bad (c : Int) (w : World) : Calls Try.prog 55 #[.int .i64 c] w fun e w' => e = .returned (.agg #[.int .i64 c, .int .i64 0, .slice none 0 0]) ∧ Below w.heap.size w w' := by
  go_enter Try.func55, Try.ntmps55
  go_wp2
  exact bodyPost_ret (v := .agg #[.int .i64 c, .int .i64 0, .slice none 0 0]) (by simp [results, Try.results55, go_sem]) rfl ⟨rfl, (by repeat (first | exact Below.refl _ _ | refine Below.drew ?_ | refine below_drewN ?_ _ | refine Below.setCell ?_ (by first | omega | (simp; done) | (simp; omega)) _ | refine Below.alloc ?_ (by first | omega | (simp; done) | (simp; omega)) _))⟩
theorem OwMirrorResult.bad (w : World) (c : Int) : OwMirrorResult w (.agg #[.int .i64 c, .int .i64 0, .slice none 0 0]) (badR c) [] := ⟨none, 0, rfl, Mat.nil _⟩
end Go.Proofs.Ytcnbkdpmcohlgam
