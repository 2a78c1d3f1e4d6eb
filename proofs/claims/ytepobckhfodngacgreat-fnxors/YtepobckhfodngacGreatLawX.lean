/-
  The plain law of FnXors: two bits in the ring are worth the one that they make together, or there is a quarrel and somebody cheats.
-/
import Derived.Test.YtepobckhfodngacGreatLawE
import Derived.Test.YtepobckhfodngacGreatLawS
import Derived.Test.YtepobckhfodngacGreatXoT
namespace Go.Proofs.YtepobckhfodngacGreat
open Go.ChangeShapes Go.WideShapes Go.ChangeAt Go.RowKit
set_option linter.unusedVariables false

theorem dbl_mod (s : Int) : (s % 256 + s % 256) % 256 = (s + s) % 256 := by omega
theorem xors {x : MNet} {a b : MMirror} (hc : xorC x a b = 0) (ha : isAlikeR a.xQ a.xViews (-1) = true) (hb : isAlikeR b.xQ b.xViews (-1) = true) :
    ((xorR 0 x a b).xNet.xQuarrel.xSome = false ∧ (xorR 0 x a b).xNet.xSent = x.xSent + 12 ∧ valueR (xorR 0 x a b).xMirror.xQ (xorR 0 x a b).xMirror.xViews (-1) = ⟨0, ((valueR a.xQ a.xViews (-1)).xValue + (valueR b.xQ b.xViews (-1)).xValue - 2 * ((valueR a.xQ a.xViews (-1)).xValue * (valueR b.xQ b.xViews (-1)).xValue)) % 256⟩) ∨
    ((xorR 0 x a b).xNet.xQuarrel.xSome = true ∧ 0 ≤ x.xCheat.xWho) := by
  obtain ⟨hd, hq⟩ := xorC_zero hc
  have hqb : b.xQ = 256 := (xo_q hd).trans hq
  obtain ⟨-, hqs, RO⟩ := dotCS_zero hd
  obtain ⟨ma, -, la⟩ := isAlikeR_trueE ha
  obtain ⟨mb, -, lb⟩ := isAlikeR_trueE hb
  rw [hq] at ma
  rw [hqb] at mb
  rw [hq, hqb, xorR_ok]
  have hx : AlT (vsOf [a]) 1 := fun t ht => by
    obtain rfl : t = 0 := by omega
    exact la
  have hy : AlT (vsOf [b]) 1 := fun t ht => by
    obtain rfl : t = 0 := by omega
    exact lb
  have va : valueR 256 a.xViews (-1) = ⟨0, wT (vsOf [a]) 0 % 256⟩ := value_wT (xss := vsOf [a]) (t := 0) ma la
  have vb : valueR 256 b.xViews (-1) = ⟨0, wT (vsOf [b]) 0 % 256⟩ := value_wT (xss := vsOf [b]) (t := 0) mb lb
  show ((dotX 256 (vsOf [a]) (vsOf [b]) 1 x).xQuarrel.xSome = false ∧ (dotX 256 (vsOf [a]) (vsOf [b]) 1 x).xSent = x.xSent + 12 ∧ valueR (mOf (dotX 256 (vsOf [a]) (vsOf [b]) 1 x).xQuarrel.xSome 256 (xoF x a b)).xQ (mOf (dotX 256 (vsOf [a]) (vsOf [b]) 1 x).xQuarrel.xSome 256 (xoF x a b)).xViews (-1) = _) ∨ ((dotX 256 (vsOf [a]) (vsOf [b]) 1 x).xQuarrel.xSome = true ∧ 0 ≤ x.xCheat.xWho)
  rcases dot_alike (q := 256) (.inr rfl) RO.ox hx hy hqs with ⟨g0, g1, ps, g2, g3, g4⟩ | ⟨g0, -, -, g3⟩
  · refine .inl ⟨g0, g1, ?_⟩
    rw [g0, mOf_on]
    dsimp only
    unfold xoF
    rw [xo_flat (xss := xoV a.xViews b.xViews _) (opRows_sq _ _ _ _), g3]
    obtain ⟨k0, k1, k2⟩ := flatR_value (q := 256) (.inr rfl) g2
    have eA : valueR 256 (xoA a.xViews b.xViews) (-1) = _ := value_opRows (f := fun x y => x + y) (fun _ _ _ _ => by omega) rfl (q := 256) (fun s t => by omega) (by decide) ma mb la lb
    have eB : valueR 256 (xoB (flatR ps)) (-1) = _ := value_opRows (f := fun x y => x + y) (fun _ _ _ _ => by omega) rfl (q := 256) (fun s t => by omega) (by decide) k0 k0 k1 k1
    have eV : valueR 256 (xoV a.xViews b.xViews (flatR ps)) (-1) = _ := value_opRows (f := fun x y => x - y) (fun _ _ _ _ => by omega) rfl (q := 256) (fun s t => by omega) (by decide) (mirC_opRows _ ma mb rfl) (mirC_opRows _ k0 k0 rfl) (alike_opRows _ _ la lb) (alike_opRows _ _ k1 k1)
    rw [eV]
    congr 1
    show ((valueR 256 (xoA a.xViews b.xViews) (-1)).xValue - (valueR 256 (xoB (flatR ps)) (-1)).xValue) % 256 = _
    rw [eA, eB, k2, va, vb]
    dsimp only
    rw [g4]
    have e1 : prodN (vsOf [a]) (vsOf [b]) 1 = wT (vsOf [a]) 0 * wT (vsOf [b]) 0 := by simp [prodN]
    rw [e1, Int.mul_emod]
    generalize wT (vsOf [a]) 0 % 256 = X
    generalize wT (vsOf [b]) 0 % 256 = Y
    generalize X * Y = P
    omega
  · exact .inr ⟨g0, g3⟩
theorem xorSt {x : MNet} {a b : MMirror} (hc : xorC x a b = 0) : 0 ≤ x.xSent ∧ x.xSent ≤ 99999 := by
  obtain ⟨hd, -⟩ := xorC_zero hc
  obtain ⟨zn, -, -⟩ := dotCS_zero hd
  exact ((listsB_iff x).1 (netC_zero zn).2.2.1).2.2
theorem xorBd {x : MNet} {a b : MMirror} (hc : xorC x a b = 0) (ha : isAlikeR a.xQ a.xViews (-1) = true) (hb : isAlikeR b.xQ b.xViews (-1) = true) :
    0 ≤ (valueR a.xQ a.xViews (-1)).xValue ∧ (valueR a.xQ a.xViews (-1)).xValue ≤ 255 ∧ 0 ≤ (valueR b.xQ b.xViews (-1)).xValue ∧ (valueR b.xQ b.xViews (-1)).xValue ≤ 255 := by
  obtain ⟨hd, hq⟩ := xorC_zero hc
  have hqb : b.xQ = 256 := (xo_q hd).trans hq
  have h1 := value_bdE (but := -1) (isAlikeR_trueE ha).1
  have h2 := value_bdE (but := -1) (isAlikeR_trueE hb).1
  rw [hq] at h1 ⊢
  rw [hqb] at h2 ⊢
  omega
def XorsF (x : MNet) (a b : MMirror) (R : MMixResult) : Prop :=
  ((R.xNet.xQuarrel.xSome = false ∧ R.xNet.xSent = x.xSent + 12 ∧ valueR R.xMirror.xQ R.xMirror.xViews (-1) = ⟨0, ((valueR a.xQ a.xViews (-1)).xValue + (valueR b.xQ b.xViews (-1)).xValue - 2 * ((valueR a.xQ a.xViews (-1)).xValue * (valueR b.xQ b.xViews (-1)).xValue)) % 256⟩) ∨ (R.xNet.xQuarrel.xSome = true ∧ 0 ≤ x.xCheat.xWho)) ∧
  (0 ≤ (valueR a.xQ a.xViews (-1)).xValue ∧ (valueR a.xQ a.xViews (-1)).xValue ≤ 255 ∧ 0 ≤ (valueR b.xQ b.xViews (-1)).xValue ∧ (valueR b.xQ b.xViews (-1)).xValue ≤ 255) ∧ 0 ≤ x.xSent ∧ x.xSent ≤ 99999
theorem xorsF {x : MNet} {a b : MMirror} (hc : xorC x a b = 0) (ha : isAlikeR a.xQ a.xViews (-1) = true) (hb : isAlikeR b.xQ b.xViews (-1) = true) : XorsF x a b (xorR 0 x a b) :=
  ⟨xors hc ha hb, xorBd hc ha hb, xorSt hc⟩
end Go.Proofs.YtepobckhfodngacGreat
