/-
  What InputMany answers is small.
-/
import Derived.Test.YtbmemdgeohnpnalGreatGv2
import Derived.Test.YtbmemdgeohnpnalGreatGv4
namespace Go.Proofs.YtbmemdgeohnpnalGreat
open Go.ChangeShapes Go.WideShapes Go.ChangeAt Go.RowKit
set_option linter.unusedVariables false

theorem slG (B : Nat) : ∀ xs : List (List Int), (∀ j, (xs.getD j []).length ≤ B) → sl xs ≤ B * xs.length
  | [], _ => by simp [sl]
  | x :: r, h => by
    have h0 : x.length ≤ B := h 0
    have h1 := slG B r (fun j => h (j + 1))
    simp only [sl, List.length_cons, Nat.mul_add, Nat.mul_one]
    omega
theorem gvX_tape (o : Nat) : ∀ (vs : List Int) (x : MNet), (gvX x o vs).xTape = x.xTape
  | [], x => rfl
  | v :: r, x => gvX_tape o r (gaveN x o v)
theorem gvM_cnt (o : Nat) : ∀ (vs : List Int) (x : MNet), cntMirrorS (gvM x o vs) ≤ 17 * vs.length
  | [], x => Nat.le_refl _
  | v :: r, x => by
    have ih := gvM_cnt o r (gaveN x o v)
    have h : sl (mirRows (inParts x o v)) = 16 := sl_mirRows (by unfold inParts; rw [List.length_set]; exact inP_len x o 4)
    show 1 + sl (mirRows (inParts x o v)) + cntMirrorS (gvM (gaveN x o v) o r) ≤ 17 * (r.length + 1)
    omega
theorem manyR_cnt (x : MNet) (oo : Int) (vs : List Int) (h : totNet x ≤ 1048576) : cntManyResult (manyR x oo vs) ≤ 268435456 := by
  by_cases hc : manyC x oo vs = 0
  · have k0 : ownC x oo = 0 := by
      by_cases k : ownC x oo = 0
      · exact k
      · rw [manyC_own k] at hc; exact absurd hc k
    have k1 : vs.length ≤ 60 := by
      by_cases k : vs.length ≤ 60
      · exact k
      · rw [manyC_many k0 k] at hc; cases hc
    obtain ⟨zn, zo⟩ := ownC_zero k0
    obtain ⟨o, rfl⟩ := Int.eq_ofNat_of_zero_le zo.1
    have NB := gvX_B o vs (NetB.of zn (Fit.of_tot h))
    rw [manyR_ok hc]
    have h1 := cntNet_le x
    have h3 : cntNet x = cntTape x.xTape + x.xUsed.length + sl x.xHeard := rfl
    have hs := slG _ _ NB.hr
    rw [NB.h4] at hs
    have hu := NB.u4
    have hm := gvM_cnt o vs x
    show cntMirrorS (gvM x o vs) + (cntTape (gvX x o vs).xTape + (gvX x o vs).xUsed.length + sl (gvX x o vs).xHeard) ≤ 268435456
    rw [gvX_tape, hu]
    omega
  · rw [manyR_bad hc]; show 0 + (0 + 0 + 0) ≤ _; omega
end Go.Proofs.YtbmemdgeohnpnalGreat
