/-
  Bits of one part: what is answered, and the program.
-/
import Derived.Test.YtepobckhfodngaoGreatPbI
import Derived.Test.YtepobckhfodngaoGreatTy2
import Derived.Test.YtepobckhfodngaoGreatDotU
import Derived.Test.YtepobckhfodngaoGreatMirJ
import Derived.Test.YtepobckhfodngaoGreatTapeW
import Derived.Test.YtepobckhfodngaoGreatPf
namespace Go.Proofs.YtepobckhfodngaoGreat
open Go.ChangeShapes Go.WideShapes Go.ChangeAt Go.RowKit
set_option linter.unusedVariables false

def pbL (xss : List (List Int)) (part : Nat) : List MMirror := (List.range 8).map (shM (bpF xss part))
def pbC (x : MMirror) (part : Int) : Int := if mirC x.xQ x.xViews = 0 then (if x.xQ = 256 then (if 0 ≤ part ∧ part ≤ 3 then 0 else 3) else 1) else mirC x.xQ x.xViews
def pbR (x : MMirror) (part : Int) : MManyBits := if pbC x part = 0 then ⟨0, pbL x.xViews part.toNat⟩ else ⟨pbC x part, []⟩
theorem pbR_bad {x : MMirror} {part c : Int} (h : pbC x part = c) (k : c ≠ 0) : pbR x part = ⟨c, []⟩ := by
  subst h
  exact if_neg k
theorem pbR_ok {x : MMirror} {part : Nat} (h : pbC x part = 0) : pbR x part = ⟨0, pbL x.xViews part⟩ := if_pos h
theorem pbC_ok {x : MMirror} {part : Int} (h1 : mirC x.xQ x.xViews = 0) (h2 : x.xQ = 256) (h3 : 0 ≤ part ∧ part ≤ 3) : pbC x part = 0 := by unfold pbC; rw [if_pos h1, if_pos h2, if_pos h3]
theorem pbC_part {x : MMirror} {part : Int} (h1 : mirC x.xQ x.xViews = 0) (h2 : x.xQ = 256) (h3 : ¬ (0 ≤ part ∧ part ≤ 3)) : pbC x part = 3 := by unfold pbC; rw [if_pos h1, if_pos h2, if_neg h3]
theorem pbC_q {x : MMirror} {part : Int} (h1 : mirC x.xQ x.xViews = 0) (h2 : x.xQ ≠ 256) : pbC x part = 1 := by unfold pbC; rw [if_pos h1, if_neg h2]
theorem pbC_mir {x : MMirror} {part : Int} (h1 : mirC x.xQ x.xViews ≠ 0) : pbC x part = mirC x.xQ x.xViews := if_neg h1
theorem pbC_pf (x : MMirror) (part : Int) : pbC x part = pfC 256 x part := by
  unfold pbC pfC oqC
  by_cases h1 : mirC x.xQ x.xViews = 0
  · by_cases h2 : x.xQ = 256
    · rw [if_pos h1, if_pos h2, if_pos h1, if_pos h2, if_pos rfl]
    · rw [if_pos h1, if_neg h2, if_pos h1, if_neg h2, if_neg (by decide)]
  · rw [if_neg h1, if_neg h1, if_neg h1]
theorem pbL_len (xss : List (List Int)) (part : Nat) : (pbL xss part).length = 8 := by simp [pbL]
end Go.Proofs.YtepobckhfodngaoGreat
