/-
  What is opened is what a mirror is worth, for all that do not lie: the plain part.
-/
import Derived.Test.YtadppilldijijacOpn2
import Derived.Test.YtadppilldijijacMirA
namespace Go.Proofs.Ytadppilldijijac
open Go.ChangeShapes Go.WideShapes Go.ChangeAt Go.RowKit
set_option linter.unusedVariables false
theorem maj2 {x y z p : Int} (h : (x = p ∧ y = p) ∨ (x = p ∧ z = p) ∨ (y = p ∧ z = p)) : major [x, y, z] = (0, p) := by
  simp only [major]
  rcases h with ⟨h1, h2⟩ | ⟨h1, h2⟩ | ⟨h1, h2⟩
  · rw [if_pos (.inl (by omega)), h1]
  · rw [if_pos (.inr (by omega)), h1]
  · by_cases h : x = y ∨ x = z
    · rw [if_pos h]; rw [show x = p by omega]
    · rw [if_neg h, if_pos (by omega), h1]
theorem told_maj {f : Nat → Int} {who p : Int} {i : Nat} (hi : i < 4) (h : ∀ j, j < 4 → j ≠ i → (j : Int) ≠ who → f j = p) : major (told4 i f 4) = (0, p) := by
  have h0 := h 0 (by omega)
  have h1 := h 1 (by omega)
  have h2 := h 2 (by omega)
  have h3 := h 3 (by omega)
  obtain rfl | rfl | rfl | rfl : i = 0 ∨ i = 1 ∨ i = 2 ∨ i = 3 := by omega
  · show major [f 1, f 2, f 3] = _
    apply maj2
    by_cases e1 : ((1 : Nat) : Int) = who
    · exact .inr (.inr ⟨h2 (by omega) (by omega), h3 (by omega) (by omega)⟩)
    · by_cases e2 : ((2 : Nat) : Int) = who
      · exact .inr (.inl ⟨h1 (by omega) e1, h3 (by omega) (by omega)⟩)
      · exact .inl ⟨h1 (by omega) e1, h2 (by omega) e2⟩
  · show major [f 0, f 2, f 3] = _
    apply maj2
    by_cases e1 : ((0 : Nat) : Int) = who
    · exact .inr (.inr ⟨h2 (by omega) (by omega), h3 (by omega) (by omega)⟩)
    · by_cases e2 : ((2 : Nat) : Int) = who
      · exact .inr (.inl ⟨h0 (by omega) e1, h3 (by omega) (by omega)⟩)
      · exact .inl ⟨h0 (by omega) e1, h2 (by omega) e2⟩
  · show major [f 0, f 1, f 3] = _
    apply maj2
    by_cases e1 : ((0 : Nat) : Int) = who
    · exact .inr (.inr ⟨h1 (by omega) (by omega), h3 (by omega) (by omega)⟩)
    · by_cases e2 : ((1 : Nat) : Int) = who
      · exact .inr (.inl ⟨h0 (by omega) e1, h3 (by omega) (by omega)⟩)
      · exact .inl ⟨h0 (by omega) e1, h1 (by omega) e2⟩
  · show major [f 0, f 1, f 2] = _
    apply maj2
    by_cases e1 : ((0 : Nat) : Int) = who
    · exact .inr (.inr ⟨h1 (by omega) (by omega), h2 (by omega) (by omega)⟩)
    · by_cases e2 : ((1 : Nat) : Int) = who
      · exact .inr (.inl ⟨h0 (by omega) e1, h2 (by omega) (by omega)⟩)
      · exact .inl ⟨h0 (by omega) e1, h1 (by omega) e2⟩
theorem open_value {q : Int} {xss : List (List Int)} {who by' : Int} {i : Nat} (hc : mirC q xss = 0) (ha : alikeB xss who = true) (hi : i < 4) (hne : (i : Int) ≠ who) : openV q xss i who by' = sumK xss who 4 % q := by
  have hA := (alikeB_iff xss who).1 ha
  obtain ⟨_, _, _, _, hown⟩ := mirC_zero hc
  have hM : partM q xss i who by' = (0, pt xss (knower i who) i) := by
    refine told_maj (who := who) hi (fun j hj hji hjw => ?_)
    unfold lieF
    rw [if_neg hjw]
    rcases hA i hi j hj with h | h | h
    · exact absurd h hji
    · exact absurd h hjw
    · exact h
  unfold openV
  rw [hM]
  congr 1
  have hr : ∀ k, k < 4 → k ≠ i → (xss.getD i []).getD k 0 = pt xss (knower k who) k := fun k hk hki => by
    rcases hA k hk i hi with h | h | h
    · exact absurd h.symm hki
    · exact absurd h hne
    · exact h
  have ho := hown i hi
  have r0 := hr 0 (by omega)
  have r1 := hr 1 (by omega)
  have r2 := hr 2 (by omega)
  have r3 := hr 3 (by omega)
  show (((pt xss (knower i who) i + (xss.getD i []).getD 0 0) + (xss.getD i []).getD 1 0) + (xss.getD i []).getD 2 0) + (xss.getD i []).getD 3 0 = (((0 + pt xss (knower 0 who) 0) + pt xss (knower 1 who) 1) + pt xss (knower 2 who) 2) + pt xss (knower 3 who) 3
  obtain rfl | rfl | rfl | rfl : i = 0 ∨ i = 1 ∨ i = 2 ∨ i = 3 := by omega
  · rw [ho, r1 (by omega), r2 (by omega), r3 (by omega)]; omega
  · rw [ho, r0 (by omega), r2 (by omega), r3 (by omega)]; omega
  · rw [ho, r0 (by omega), r1 (by omega), r3 (by omega)]; omega
  · rw [ho, r0 (by omega), r1 (by omega), r2 (by omega)]; omega
/-- the plain law -/
theorem opens {q : Int} {xss : List (List Int)} {who by' : Int} (h : (openR q xss who by').xCode = 0) : mirC q xss = 0 ∧ (openR q xss who by').xValues.length = 4 ∧ ((valueR q xss who).xCode = 0 → ∀ i : Nat, i < 4 → (i : Int) ≠ who → (openR q xss who by').xValues.getD i 0 = (valueR q xss who).xValue) := by
  by_cases h0 : mirC q xss = 0
  · by_cases h1 : isLieB who by' = true
    · by_cases h2 : openOk q xss who by'
      · rw [openR_ok h0 h1 h2]
        refine ⟨h0, rfl, fun hv i hi hne => ?_⟩
        have hb : isBut who = true := by unfold isLieB at h1; rw [Bool.and_eq_true] at h1; exact h1.1
        by_cases ha : alikeB xss who = true
        · have e : valueR q xss who = ⟨0, sumK xss who 4 % q⟩ := by unfold valueR; rw [if_pos h0, if_pos hb, if_pos ha]
          rw [e]
          show (openL q xss who by').getD i 0 = sumK xss who 4 % q
          rw [← open_value (by' := by') h0 ha hi hne]
          obtain rfl | rfl | rfl | rfl : i = 0 ∨ i = 1 ∨ i = 2 ∨ i = 3 := by omega
          all_goals rfl
        · have e : (valueR q xss who).xCode = 6 := by unfold valueR; rw [if_pos h0, if_pos hb, if_neg ha]
          rw [e] at hv; cases hv
      · rw [openR_none h0 h1 h2] at h; cases h
    · rw [openR_out h0 h1] at h; cases h
  · rw [openR_fault h0] at h; exact absurd h h0
end Go.Proofs.Ytadppilldijijac
