/-
  The plain law of FnGives: what many inputs give is worth what was given, each one; who gives has used no words.
-/
import Derived.Test.YtbmemdgeohnpnacGv1
import Derived.Test.YtbmemdgeohnpnacLawI
namespace Go.Proofs.Ytbmemdgeohnpnac
open Go.ChangeShapes Go.WideShapes Go.ChangeAt Go.RowKit
set_option linter.unusedVariables false

theorem gvX_sent (o : Nat) (ho : o < 4) : ∀ (vs : List Int) (x : MNet), (gvX x o vs).xSent = x.xSent + 3 * (vs.length : Int)
  | [], x => by simp [gvX]
  | v :: r, x => by
    show (gvX (gaveN x o v) o r).xSent = _
    rw [gvX_sent o ho r (gaveN x o v)]
    show inSt x o 4 + _ = _
    rw [inSt_three x o ho]
    simp only [List.length_cons]
    omega
theorem gvX_used (o : Nat) : ∀ (vs : List Int) (x : MNet), (gvX x o vs).xUsed.getD o 0 = x.xUsed.getD o 0 ∧ (gvX x o vs).xUsed.length = x.xUsed.length
  | [], x => ⟨rfl, rfl⟩
  | v :: r, x => by
    obtain ⟨h1, h2⟩ := gvX_used o r (gaveN x o v)
    refine ⟨h1.trans ?_, h2.trans ?_⟩
    · exact inU_own x.xUsed o 4
    · exact inU_len x.xUsed o 4
theorem gvM_val (o : Nat) (ho : o < 4) : ∀ (vs : List Int) (x : MNet), (∀ j, j < vs.length → 0 ≤ vs.getD j 0 ∧ vs.getD j 0 < 256) → ∀ j, j < vs.length → valueR ((gvM x o vs).getD j zM).xQ ((gvM x o vs).getD j zM).xViews (-1) = ⟨0, vs.getD j 0⟩
  | [], x, _, j, h => by simp at h
  | v :: r, x, hv, 0, _ => by
    have h0 : 0 ≤ v ∧ v < 256 := hv 0 (by simp)
    obtain ⟨h1, h2, h3⟩ := inParts_sum x o ho v h0
    show valueR 256 (mirRows (inParts x o v)) (-1) = ⟨0, v⟩
    rw [value_mirRows (-1) (.inr rfl) h1 h2 (by decide), h3]
  | v :: r, x, hv, j + 1, h => gvM_val o ho r (gaveN x o v) (fun i hi => hv (i + 1) (by simpa using hi)) j (by simpa using h)
structure GivesOk (x : MNet) (oo : Int) (vs : List Int) (R : MManyResult) : Prop where
  ml : R.xMirrors.length = vs.length
  mv : ∀ j, j < vs.length → valueR (R.xMirrors.getD j zM).xQ (R.xMirrors.getD j zM).xViews (-1) = ⟨0, vs.getD j 0⟩
  st : R.xNet.xSent = x.xSent + 3 * (vs.length : Int)
  sb : 0 ≤ x.xSent ∧ x.xSent ≤ 99999
  ub : R.xNet.xUsed.length = 4
  ul : x.xUsed.length = 4
  uo : R.xNet.xUsed.getD oo.toNat 0 = x.xUsed.getD oo.toNat 0
  ob : 0 ≤ oo ∧ oo ≤ 3
  nl : vs.length ≤ 60
theorem givesOk {x : MNet} {oo : Int} {vs : List Int} (h : manyC x oo vs = 0) : GivesOk x oo vs (manyR x oo vs) := by
  have k0 : ownC x oo = 0 := by
    by_cases k : ownC x oo = 0
    · exact k
    · rw [manyC_own k] at h; exact absurd h k
  have k1 : vs.length ≤ 60 := by
    by_cases k : vs.length ≤ 60
    · exact k
    · rw [manyC_many k0 k] at h; cases h
  have k2 : elC 256 vs = 0 := by rw [manyC_el k0 k1] at h; exact h
  obtain ⟨zn, zo⟩ := ownC_zero k0
  obtain ⟨o, rfl⟩ := Int.eq_ofNat_of_zero_le zo.1
  have ho : o < 4 := by omega
  obtain ⟨-, z1, z2, -⟩ := netC_zero zn
  have hv : ∀ j, j < vs.length → 0 ≤ vs.getD j 0 ∧ vs.getD j 0 < 256 := by
    unfold elC at k2
    by_cases k : okE 256 vs = true
    · exact (okE_iff 256 vs).1 k
    · rw [if_neg k] at k2; cases k2
  rw [manyR_ok h]
  obtain ⟨u1, u2⟩ := gvX_used o vs x
  exact ⟨gvM_len o vs x, fun j hj => gvM_val o ho vs x hv j hj, gvX_sent o ho vs x, ((listsB_iff x).1 z2).2.2, u2.trans z1.1, z1.1, by simpa using u1, zo, k1⟩
end Go.Proofs.Ytbmemdgeohnpnac
