/-
  What becomes 0 below 0, plain.
-/
import Derived.Test.YtepobckhfodngaoGreatSgM
import Derived.Test.YtepobckhfodngaoGreatIjM
import Derived.Test.YtepobckhfodngaoGreatOneM
namespace Go.Proofs.YtepobckhfodngaoGreat
open Go.ChangeShapes Go.WideShapes Go.ChangeAt Go.RowKit
set_option linter.unusedVariables false
def rlX2 (xss : List (List Int)) (x : MNet) : MNet := ijX (sgF xss x) (sgX xss x)
def rlA (xss : List (List Int)) (x : MNet) : List Int := ijF (sgF xss x) (sgX xss x)
def rlX3 (xss : List (List Int)) (x : MNet) : MNet := prX 256 xss.flatten (rlA xss x) (rlX2 xss x)
def rlF (xss : List (List Int)) (x : MNet) : List Int := subF 256 xss.flatten (prF 256 xss.flatten (rlA xss x) (rlX2 xss x))
def rlX (xss : List (List Int)) (x : MNet) : MNet := if (sgX xss x).xQuarrel.xSome = true then sgX xss x else if (rlX2 xss x).xQuarrel.xSome = true then rlX2 xss x else rlX3 xss x
theorem rlX_1 {xss : List (List Int)} {x : MNet} (h : (sgX xss x).xQuarrel.xSome = true) : rlX xss x = sgX xss x := if_pos h
theorem rlX_2 {xss : List (List Int)} {x : MNet} (h1 : (sgX xss x).xQuarrel.xSome = false) (h2 : (rlX2 xss x).xQuarrel.xSome = true) : rlX xss x = rlX2 xss x := by
  unfold rlX
  rw [if_neg (by rw [h1]; decide), if_pos h2]
theorem rlX_3 {xss : List (List Int)} {x : MNet} (h1 : (sgX xss x).xQuarrel.xSome = false) (h2 : (rlX2 xss x).xQuarrel.xSome = false) : rlX xss x = rlX3 xss x := by
  unfold rlX
  rw [if_neg (by rw [h1]; decide), if_neg (by rw [h2]; decide)]
theorem ijX_NB' (fs : List Int) {m : Nat} {x : MNet} (B : NetB m x) : NetB (m + 36) (ijX fs x) := by
  obtain ⟨h1, h2, h3⟩ := ijX_B fs B
  unfold ijX
  split
  · exact h1.mono (by omega)
  · split
    · exact h2.mono (by omega)
    · exact h3.mono (by omega)
theorem rl_ok {xss : List (List Int)} {x : MNet} {m : Nat} (h0 : ∀ i, i < 4 → pt xss i i = 0) (hx : NetB m x) : NetB (m + 252) (sgX xss x) ∧ NetB (m + 252 + 36) (rlX2 xss x) ∧ NetB (m + 252 + 36 + 12) (rlX3 xss x) := by
  have h1 := sgX_NB h0 hx
  have h2 : NetB (m + 252 + 36) (rlX2 xss x) := ijX_NB' _ h1
  exact ⟨h1, h2, (prF_ok (.inr rfl) _ _ h2).1⟩
theorem rlX_NB {xss : List (List Int)} {x : MNet} {m : Nat} (h0 : ∀ i, i < 4 → pt xss i i = 0) (hx : NetB m x) : NetB (m + 300) (rlX xss x) := by
  obtain ⟨h1, h2, h3⟩ := rl_ok h0 hx
  unfold rlX
  split
  · exact h1.mono (by omega)
  · split
    · exact h2.mono (by omega)
    · exact h3.mono (by omega)
theorem ijX_tape' (fs : List Int) (x : MNet) : (ijX fs x).xTape = x.xTape := by
  have h1 : (ijX1 fs x).xTape = x.xTape := dotX_tape _ _ _ _ _
  have h2 : (ijX2 fs x).xTape = (ijX1 fs x).xTape := dotX_tape _ _ _ _ _
  have h3 : (ijX3 fs x).xTape = (ijX2 fs x).xTape := dotX_tape _ _ _ _ _
  unfold ijX
  split
  · exact h1
  · split
    · exact h2.trans h1
    · exact h3.trans (h2.trans h1)
theorem rlX_tape (xss : List (List Int)) (x : MNet) : (rlX xss x).xTape = x.xTape := by
  have h1 : (sgX xss x).xTape = x.xTape := sgX_tape _ _
  have h2 : (rlX2 xss x).xTape = (sgX xss x).xTape := ijX_tape' _ _
  have h3 : (rlX3 xss x).xTape = (rlX2 xss x).xTape := dotX_tape _ _ _ _ _
  unfold rlX
  split
  · exact h1
  · split
    · exact h2.trans h1
    · exact h3.trans (h2.trans h1)
def rlR (x : MNet) (a : MMirror) : MMixResult := oneR (ofC 256 x a) (rlX a.xViews x) 256 (rlF a.xViews x)
theorem rlR_cnt (x : MNet) (a : MMirror) (h : totNet x ≤ 1048576) : cntMixResult (rlR x a) ≤ 268435456 :=
  oneR_cnt (m := 300) h (by omega) (fun hc => ⟨rlX_tape _ _, by
    obtain ⟨h0, h1⟩ := ofC_zero hc
    have := rlX_NB (mirC_zero (oqC_zero h1).1).2.2.2.2 (NetB.of (quietC_zero h0).1 (Fit.of_tot h))
    rwa [Nat.zero_add] at this⟩)
end Go.Proofs.YtepobckhfodngaoGreat
