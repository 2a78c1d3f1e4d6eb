/-
  What is given is worth what was given: the plain part.
-/
import Derived.Test.YtbmemdgeohnpnacInM
import Derived.Test.YtbmemdgeohnpnacLawM
namespace Go.Proofs.Ytbmemdgeohnpnac
open Go.ChangeShapes Go.WideShapes Go.ChangeAt Go.RowKit
set_option linter.unusedVariables false
theorem majI {x y z p : Int} (h : (x = p ∧ y = p) ∨ (x = p ∧ z = p) ∨ (y = p ∧ z = p)) : (major [x, y, z]).2 = p := by
  simp only [major]
  rcases h with ⟨h1, h2⟩ | ⟨h1, h2⟩ | ⟨h1, h2⟩
  · rw [if_pos (.inl (by omega)), h1]
  · rw [if_pos (.inr (by omega)), h1]
  · by_cases h : x = y ∨ x = z
    · rw [if_pos h]; omega
    · rw [if_neg h, if_pos (by omega), h1]
theorem tellI (c : MCheat) (s who v : Int) : (major [tellV c 256 s who v, tellV c 256 (s + 1) who v, tellV c 256 (s + 1 + 1) who v]).2 = v := by
  apply majI
  by_cases h0 : c.xAt = s
  · exact .inr (.inr ⟨tellV_no2 (by omega), tellV_no2 (by omega)⟩)
  · by_cases h1 : c.xAt = s + 1
    · exact .inr (.inl ⟨tellV_no2 h0, tellV_no2 (by omega)⟩)
    · exact .inl ⟨tellV_no2 h0, tellV_no2 h1⟩
theorem inH_major (x : MNet) (o : Nat) (ho : o < 4) (left : Int) : (inH x o left 4).length = 3 ∧ (major (inH x o left 4)).2 = left := by
  obtain rfl | rfl | rfl | rfl : o = 0 ∨ o = 1 ∨ o = 2 ∨ o = 3 := by omega
  all_goals exact ⟨rfl, tellI x.xCheat x.xSent _ left⟩
theorem inSt_three (x : MNet) (o : Nat) (ho : o < 4) : inSt x o 4 = x.xSent + 3 := by
  obtain rfl | rfl | rfl | rfl : o = 0 ∨ o = 1 ∨ o = 2 ∨ o = 3 := by omega
  all_goals
    show x.xSent + 1 + 1 + 1 = _
    omega
theorem agree_inH1 (x : MNet) (o : Nat) (ho : o < 4) (left : Int) (hl : 0 ≤ left ∧ left < 256) : (agreeR (inH x o left 4)).2 = left := by
  obtain ⟨h3, hm⟩ := inH_major x o ho left
  have hk : okE 256 (inH x o left 4) = true := by
    unfold okE
    rw [List.all_eq_true]
    intro z hz
    simpa using inH_bd hl 4 z hz
  rw [agreeR_ok _ h3 hk]
  exact hm
theorem inParts_sum (x : MNet) (o : Nat) (ho : o < 4) (v : Int) (hv : 0 ≤ v ∧ v < 256) : (inParts x o v).length = 4 ∧ okV 256 (inParts x o v) = true ∧ sum4 (inParts x o v) % 256 = v := by
  have hl := inL_bd (x := x) (o := o) hv 4
  have ha := agree_inH1 x o ho _ hl
  refine ⟨by unfold inParts; rw [List.length_set]; exact inP_len x o 4, ?_, ?_⟩
  · unfold inParts
    rw [ha]
    exact okV_setI (inP_bd x o 4) hl
  · unfold inParts
    rw [ha, sum4_set (inP_len x o 4) o ho]
    have b0 := inW_bd x 0
    have b1 := inW_bd x 1
    have b2 := inW_bd x 2
    have b3 := inW_bd x 3
    obtain rfl | rfl | rfl | rfl : o = 0 ∨ o = 1 ∨ o = 2 ∨ o = 3 := by omega
    · show (0 + inW x 1 + inW x 2 + inW x 3 - 0 + (((v - inW x 1) % 256 - inW x 2) % 256 - inW x 3) % 256) % 256 = v
      omega
    · show (inW x 0 + 0 + inW x 2 + inW x 3 - 0 + (((v - inW x 0) % 256 - inW x 2) % 256 - inW x 3) % 256) % 256 = v
      omega
    · show (inW x 0 + inW x 1 + 0 + inW x 3 - 0 + (((v - inW x 0) % 256 - inW x 1) % 256 - inW x 3) % 256) % 256 = v
      omega
    · show (inW x 0 + inW x 1 + inW x 2 + 0 - 0 + (((v - inW x 0) % 256 - inW x 1) % 256 - inW x 2) % 256) % 256 = v
      omega
theorem ownC_free {x : MNet} {o : Int} (h : ownC x o = 0) : x.xQuarrel.xSome = false := by
  by_cases k : quietC x = 0
  · unfold quietC at k
    by_cases k0 : netC x = 0
    · rw [if_pos k0] at k
      by_cases k1 : x.xQuarrel.xSome = true
      · rw [if_pos k1] at k; cases k
      · simpa using k1
    · rw [if_neg k0] at k; exact absurd k k0
  · rw [ownC_fault k] at h; exact absurd h k
/-- the plain law -/
theorem inputs {x : MNet} {o v : Int} (h : (inputR x o v).xCode = 0) : (inputR x o v).xMirror.xQ = 256 ∧ (inputR x o v).xNet.xSent = x.xSent + 3 ∧ (inputR x o v).xNet.xQuarrel.xSome = false ∧ (0 ≤ x.xSent ∧ x.xSent ≤ 99999) ∧ ∀ but, isBut but = true → valueR (inputR x o v).xMirror.xQ (inputR x o v).xMirror.xViews but = ⟨0, v⟩ := by
  by_cases k0 : ownC x o = 0
  · by_cases k1 : 0 ≤ v ∧ v < 256
    · obtain ⟨z0, z1⟩ := ownC_zero k0
      have ho : o.toNat < 4 := by omega
      obtain ⟨p4, pk, ps⟩ := inParts_sum x o.toNat ho v k1
      rw [inputR_in k0 k1]
      refine ⟨rfl, inSt_three x o.toNat ho, ownC_free (x := x) (o := o) k0, ((listsB_iff x).1 (netC_zero z0).2.2.1).2.2, fun but hb => ?_⟩
      have hvm := value_mirRows but (.inr rfl) p4 pk hb
      rw [ps] at hvm
      exact hvm
    · rw [inputR_out k0 k1] at h; cases h
  · rw [inputR_fault k0] at h; exact absurd h k0
end Go.Proofs.Ytbmemdgeohnpnac
