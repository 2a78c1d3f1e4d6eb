/-
  What a function of a net and one mirror answers, plain; that it is small.
-/
import Derived.Test.YtepobckhfodngaoGreatSpH
import Derived.Test.YtepobckhfodngaoGreatPfO
namespace Go.Proofs.YtepobckhfodngaoGreat
open Go.ChangeShapes Go.WideShapes Go.ChangeAt Go.RowKit
set_option linter.unusedVariables false
def oneR (c : Int) (X : MNet) (q : Int) (F : List Int) : MMixResult := if c = 0 then ⟨0, mOf X.xQuarrel.xSome q F, X⟩ else badM c
theorem oneR_ok (X : MNet) (q : Int) (F : List Int) : oneR 0 X q F = ⟨0, mOf X.xQuarrel.xSome q F, X⟩ := if_pos rfl
theorem oneR_bad {c : Int} {X : MNet} {q : Int} {F : List Int} (h : c ≠ 0) : oneR c X q F = badM c := if_neg h
theorem oneR_cnt {c : Int} {X x : MNet} {q : Int} {F : List Int} {m : Nat} (h : totNet x ≤ 1048576) (hm : m ≤ 2000) (hX : c = 0 → X.xTape = x.xTape ∧ NetB m X) : cntMixResult (oneR c X q F) ≤ 268435456 := by
  by_cases hc : c = 0
  · obtain ⟨ht, hok⟩ := hX hc
    rw [hc, oneR_ok]
    have h1 := cntNet_le x
    have h3 : cntNet x = cntTape x.xTape + x.xUsed.length + sl x.xHeard := rfl
    have hs := slB _ _ hok.hr
    rw [hok.h4] at hs
    have hu := hok.u4
    have hmo := mOf_sl X.xQuarrel.xSome q F
    show sl (mOf _ _ _).xViews + (cntTape X.xTape + X.xUsed.length + sl X.xHeard) ≤ 268435456
    rw [ht, hu]
    omega
  · rw [oneR_bad hc]; show 0 + (0 + 0 + 0) ≤ _; omega
theorem dotX_tape (q : Int) (xss yss : List (List (List Int))) (n : Nat) (x : MNet) : (dotX q xss yss n x).xTape = x.xTape := dotGo_tape pairs6 x _
end Go.Proofs.YtepobckhfodngaoGreat
