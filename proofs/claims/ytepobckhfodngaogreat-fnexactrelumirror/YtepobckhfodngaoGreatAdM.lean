/-
  Bits that are added, plain: the carry, the net and the sum of each place; where it ends.
-/
import Derived.Test.YtepobckhfodngaoGreatIjM
import Derived.Test.YtepobckhfodngaoGreatSpH
namespace Go.Proofs.YtepobckhfodngaoGreat
open Go.ChangeShapes Go.WideShapes Go.ChangeAt Go.RowKit
set_option linter.unusedVariables false
def z16L : List Int := List.replicate 16 0
/-- the carry and the net ahead of a place -/
def adSt (A B : Nat → List Int) (x : MNet) : Nat → List Int × MNet
  | 0 => (z16L, x)
  | k + 1 => (addF 2 (prF 2 (addF 2 (A k) (adSt A B x k).1) (addF 2 (B k) (adSt A B x k).1) (adSt A B x k).2) (adSt A B x k).1, prX 2 (addF 2 (A k) (adSt A B x k).1) (addF 2 (B k) (adSt A B x k).1) (adSt A B x k).2)
def adCa (A B : Nat → List Int) (x : MNet) (k : Nat) : List Int := (adSt A B x k).1
def adNt (A B : Nat → List Int) (x : MNet) (k : Nat) : MNet := (adSt A B x k).2
def adX (A B : Nat → List Int) (x : MNet) (k : Nat) : List Int := addF 2 (A k) (adCa A B x k)
def adY (A B : Nat → List Int) (x : MNet) (k : Nat) : List Int := addF 2 (B k) (adCa A B x k)
def adS (A B : Nat → List Int) (x : MNet) (k : Nat) : List Int := addF 2 (adX A B x k) (B k)
theorem adNt_next (A B : Nat → List Int) (x : MNet) (k : Nat) : prX 2 (adX A B x k) (adY A B x k) (adNt A B x k) = adNt A B x (k + 1) := rfl
theorem adCa_next (A B : Nat → List Int) (x : MNet) (k : Nat) : addF 2 (prF 2 (adX A B x k) (adY A B x k) (adNt A B x k)) (adCa A B x k) = adCa A B x (k + 1) := rfl
theorem z16_ok : Ok16 2 z16L := ⟨by simp [z16L], fun j => by
  unfold z16L
  rw [List.getD_eq_getElem?_getD]
  by_cases h : j < 16
  · rw [List.getElem?_replicate, if_pos h]; decide
  · rw [List.getElem?_replicate, if_neg h]; decide⟩
theorem z16_own : Own0 z16L := fun p hp => by
  unfold z16L
  rw [List.getD_eq_getElem?_getD, List.getElem?_replicate, if_pos (by omega)]
  rfl
theorem adSt_ok {A B : Nat → List Int} {x : MNet} {m : Nat} (hA : ∀ k, k < 8 → Ok16 2 (A k) ∧ Own0 (A k)) (hB : ∀ k, k < 8 → Ok16 2 (B k)) (hx : NetB m x) : ∀ k, k ≤ 7 → Ok16 2 (adCa A B x k) ∧ Own0 (adCa A B x k) ∧ NetB (m + 12 * k) (adNt A B x k)
  | 0, _ => ⟨z16_ok, z16_own, hx⟩
  | k + 1, h => by
    obtain ⟨h1, h2, h3⟩ := adSt_ok hA hB hx k (by omega)
    have hX : Own0 (adX A B x k) := addF_own0 (hA k (by omega)).2 h2
    refine ⟨addF_ok16 (.inl rfl) _ _, addF_own0 (prF_own0 _ _ hX) h2, ?_⟩
    have := (prF_ok (.inl rfl) (adX A B x k) (adY A B x k) h3).1
    exact this.mono (by omega)
/-- the first place from k on ahead of which there is a quarrel, or the last one -/
def adEnd (X : Nat → MNet) : Nat → Nat → Nat
  | 0, k => k
  | f + 1, k => if (X k).xQuarrel.xSome = true then k else adEnd X f (k + 1)
theorem adEnd_at (X : Nat → MNet) : ∀ (f k j : Nat), k ≤ j → j ≤ k + f → (∀ i, k ≤ i → i < j → (X i).xQuarrel.xSome = false) → ((X j).xQuarrel.xSome = true ∨ j = k + f) → adEnd X f k = j
  | 0, k, j, h1, h2, _, _ => by rw [adEnd]; omega
  | f + 1, k, j, h1, h2, h3, h4 => by
    rw [adEnd]
    by_cases e : k = j
    · subst e
      rcases h4 with h | h
      · rw [if_pos h]
      · omega
    · rw [if_neg (by rw [h3 k (Nat.le_refl _) (by omega)]; decide)]
      exact adEnd_at X f (k + 1) j (by omega) (by omega) (fun i hi hj => h3 i (by omega) hj) (by rcases h4 with h | h; exact .inl h; exact .inr (by omega))
/-- the net behind the sum -/
def adR (A B : Nat → List Int) (x : MNet) : MNet := adNt A B x (adEnd (adNt A B x) 7 0)
theorem adR_at {A B : Nat → List Int} {x : MNet} {j : Nat} (h2 : j ≤ 7) (h3 : ∀ i, i < j → (adNt A B x i).xQuarrel.xSome = false) (h4 : (adNt A B x j).xQuarrel.xSome = true ∨ j = 7) : adR A B x = adNt A B x j := by
  unfold adR
  rw [adEnd_at (adNt A B x) 7 0 j (Nat.zero_le _) (by omega) (fun i _ h => h3 i h) (by rcases h4 with h | h; exact .inl h; exact .inr (by omega))]
theorem adEnd_le (X : Nat → MNet) : ∀ f k, adEnd X f k ≤ k + f
  | 0, k => Nat.le_refl _
  | f + 1, k => by
    rw [adEnd]
    split
    · omega
    · have := adEnd_le X f (k + 1); omega
theorem adR_ok {A B : Nat → List Int} {x : MNet} {m : Nat} (hA : ∀ k, k < 8 → Ok16 2 (A k) ∧ Own0 (A k)) (hB : ∀ k, k < 8 → Ok16 2 (B k)) (hx : NetB m x) : NetB (m + 84) (adR A B x) := by
  have h := adEnd_le (adNt A B x) 7 0
  exact (adSt_ok hA hB hx (adEnd (adNt A B x) 7 0) (by omega)).2.2.mono (by omega)
theorem adNt_tape (A B : Nat → List Int) (x : MNet) : ∀ k, (adNt A B x k).xTape = x.xTape
  | 0 => rfl
  | k + 1 => by
    rw [← adNt_next]
    exact (dotGo_tape pairs6 _ _).trans (adNt_tape A B x k)
theorem adS_ok (A B : Nat → List Int) (x : MNet) (k : Nat) : Ok16 2 (adS A B x k) := addF_ok16 (.inl rfl) _ _
theorem adS_own {A B : Nat → List Int} {x : MNet} {m : Nat} (hA : ∀ k, k < 8 → Ok16 2 (A k) ∧ Own0 (A k)) (hB : ∀ k, k < 8 → Ok16 2 (B k) ∧ Own0 (B k)) (hx : NetB m x) {k : Nat} (hk : k < 8) : Own0 (adS A B x k) := addF_own0 (addF_own0 (hA k hk).2 (adSt_ok hA (fun k h => (hB k h).1) hx k (by omega)).2.1) (hB k hk).2
end Go.Proofs.YtepobckhfodngaoGreat
