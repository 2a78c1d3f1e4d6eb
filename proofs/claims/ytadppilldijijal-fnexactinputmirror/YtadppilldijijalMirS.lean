/-
  Contracts of chapter 3's model: faults of mirrors.
-/
import Derived.Test.YtadppilldijijalTy
import Derived.Test.YtadppilldijijalRing
import Derived.Deep.RegionHeld3
namespace Go.Proofs.Ytadppilldijijal
open Go.ChangeShapes Go.WideShapes Go.ChangeAt Go.RowKit
set_option linter.unusedVariables false

abbrev isQ (q : Int) : Prop := q = 2 ∨ q = 256
def okV (q : Int) (xs : List Int) : Bool := xs.all (fun x => decide (0 ≤ x ∧ x < q))
theorem okV_iff (q : Int) (xs : List Int) : okV q xs = true ↔ ∀ j, j < xs.length → 0 ≤ xs.getD j 0 ∧ xs.getD j 0 < q := by
  unfold okV
  rw [List.all_eq_true]
  constructor
  · intro h j hj
    have := h xs[j] (List.getElem_mem hj)
    simp only [decide_eq_true_eq] at this
    simpa [hj] using this
  · intro h x hx
    obtain ⟨j, hj, rfl⟩ := List.getElem_of_mem hx
    have := h j hj
    simpa [hj] using this
/-- the code of one view -/
def viewC (q : Int) (xs : List Int) : Int := if xs.length = 4 then (if okV q xs = true then 0 else 3) else 1
def viewsC (q : Int) : List (List Int) → Int
  | [] => 0
  | xs :: r => if viewC q xs = 0 then viewsC q r else viewC q xs
/-- each one's own part is 0 -/
def ownB (xss : List (List Int)) : Bool := (List.range 4).all (fun i => decide ((xss.getD i []).getD i 0 = 0))
/-- the code of a mirror -/
def mirC (q : Int) (xss : List (List Int)) : Int := if isQ q then (if xss.length = 4 then (if viewsC q xss = 0 then (if ownB xss = true then 0 else 1) else viewsC q xss) else 1) else 3
theorem viewsC_all (q : Int) : ∀ xss : List (List Int), (∀ j, j < xss.length → viewC q (xss.getD j []) = 0) → viewsC q xss = 0
  | [], _ => rfl
  | xs :: r, h => by
    have h0 := h 0 (by simp)
    simp only [List.getD_cons_zero] at h0
    rw [viewsC, if_pos h0]
    exact viewsC_all q r fun j hj => by have := h (j + 1) (by simp; omega); simpa using this
theorem viewsC_first (q : Int) : ∀ (xss : List (List Int)) (k : Nat), k < xss.length → (∀ j, j < k → viewC q (xss.getD j []) = 0) → viewC q (xss.getD k []) ≠ 0 → viewsC q xss = viewC q (xss.getD k [])
  | [], k, hk, _, _ => by simp at hk
  | xs :: r, 0, _, _, h => by simp only [List.getD_cons_zero] at h ⊢; rw [viewsC, if_neg h]
  | xs :: r, k + 1, hk, ha, h => by
    have h0 := ha 0 (by omega)
    simp only [List.getD_cons_zero] at h0
    rw [viewsC, if_pos h0]
    simp only [List.getD_cons_succ] at h ⊢
    exact viewsC_first q r k (by simpa using hk) (fun j hj => by have := ha (j + 1) (by omega); simpa using this) h
theorem viewC_form {q : Int} {xs : List Int} (h : ¬ xs.length = 4) : viewC q xs = 1 := if_neg h
theorem viewC_ok {q : Int} {xs : List Int} (h : xs.length = 4) (k : okV q xs = true) : viewC q xs = 0 := by unfold viewC; rw [if_pos h, if_pos k]
theorem viewC_bad {q : Int} {xs : List Int} (h : xs.length = 4) (k : ¬ okV q xs = true) : viewC q xs = 3 := by unfold viewC; rw [if_pos h, if_neg k]
theorem viewC_zero {q : Int} {xs : List Int} (h : viewC q xs = 0) : xs.length = 4 ∧ ∀ j, 0 ≤ xs.getD j 0 ∧ (isQ q → xs.getD j 0 < q) := by
  unfold viewC at h
  split at h
  · rename_i h4
    split at h
    · rename_i hk
      refine ⟨h4, fun j => ?_⟩
      by_cases hj : j < xs.length
      · have := (okV_iff q xs).1 hk j hj; exact ⟨this.1, fun _ => this.2⟩
      · rw [show xs.getD j 0 = 0 by simp [List.getD_eq_getElem?_getD, List.getElem?_eq_none (Nat.le_of_not_lt hj)]]
        exact ⟨by omega, fun h => by rcases h with rfl | rfl <;> omega⟩
    · cases h
  · cases h
theorem viewsC_zero {q : Int} : ∀ {xss : List (List Int)}, viewsC q xss = 0 → ∀ j, j < xss.length → viewC q (xss.getD j []) = 0
  | [], _, j, hj => by simp at hj
  | xs :: r, h, 0, _ => by
    rw [viewsC] at h
    split at h
    · simpa using ‹_›
    · contradiction
  | xs :: r, h, j + 1, hj => by
    rw [viewsC] at h
    split at h
    · simpa using viewsC_zero h j (by simpa using hj)
    · contradiction
theorem mirC_q {q : Int} {xss : List (List Int)} (h : ¬ isQ q) : mirC q xss = 3 := if_neg h
theorem mirC_form {q : Int} {xss : List (List Int)} (h : isQ q) (k : ¬ xss.length = 4) : mirC q xss = 1 := by unfold mirC; rw [if_pos h, if_neg k]
theorem mirC_views {q : Int} {xss : List (List Int)} (h : isQ q) (k : xss.length = 4) (m : viewsC q xss ≠ 0) : mirC q xss = viewsC q xss := by unfold mirC; rw [if_pos h, if_pos k, if_neg m]
theorem mirC_own {q : Int} {xss : List (List Int)} (h : isQ q) (k : xss.length = 4) (m : viewsC q xss = 0) (b : ¬ ownB xss = true) : mirC q xss = 1 := by unfold mirC; rw [if_pos h, if_pos k, if_pos m, if_neg b]
theorem mirC_ok {q : Int} {xss : List (List Int)} (h : isQ q) (k : xss.length = 4) (m : viewsC q xss = 0) (b : ownB xss = true) : mirC q xss = 0 := by unfold mirC; rw [if_pos h, if_pos k, if_pos m, if_pos b]
theorem ownB_iff (xss : List (List Int)) : ownB xss = true ↔ ∀ i, i < 4 → (xss.getD i []).getD i 0 = 0 := by
  unfold ownB
  rw [List.all_eq_true]
  exact ⟨fun h i hi => by simpa using h i (List.mem_range.2 hi), fun h i hi => by simpa using h i (List.mem_range.1 hi)⟩
/-- what a mirror without a fault is made of -/
theorem mirC_zero {q : Int} {xss : List (List Int)} (h : mirC q xss = 0) : isQ q ∧ xss.length = 4 ∧ (∀ i, i < 4 → (xss.getD i []).length = 4) ∧ (∀ i j, 0 ≤ (xss.getD i []).getD j 0 ∧ (xss.getD i []).getD j 0 < q) ∧ ∀ i, i < 4 → (xss.getD i []).getD i 0 = 0 := by
  unfold mirC at h
  split at h
  · rename_i hq
    split at h
    · rename_i h4
      split at h
      · rename_i hv
        split at h
        · rename_i hb
          refine ⟨hq, h4, fun i hi => (viewC_zero (viewsC_zero hv i (by omega))).1, fun i j => ?_, (ownB_iff xss).1 hb⟩
          by_cases hi : i < xss.length
          · have := (viewC_zero (viewsC_zero hv i hi)).2 j; exact ⟨this.1, this.2 hq⟩
          · have e : xss.getD i [] = [] := by simp [List.getD_eq_getElem?_getD, List.getElem?_eq_none (Nat.le_of_not_lt hi)]
            rw [e]
            simp
            rcases hq with rfl | rfl <;> omega
        · cases h
      · contradiction
    · cases h
  · cases h
end Go.Proofs.Ytadppilldijijal
