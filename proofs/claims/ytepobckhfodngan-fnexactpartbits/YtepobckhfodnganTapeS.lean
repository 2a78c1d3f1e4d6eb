/-
  Contracts of chapter 2's model: what its functions answer, as plain functions of the lists.
-/
import Derived.Test.YtepobckhfodnganTy
import Derived.Test.YtepobckhfodnganRing
namespace Go.Proofs.Ytepobckhfodngan
open Go.ChangeShapes Go.WideShapes Go.ChangeAt Go.RowKit
set_option linter.unusedVariables false

def okB (xs : List Int) : Bool := xs.all (fun x => decide (0 ≤ x ∧ x ≤ 255))
theorem okB_iff (xs : List Int) : okB xs = true ↔ ∀ j, j < xs.length → 0 ≤ xs.getD j 0 ∧ xs.getD j 0 ≤ 255 := by
  unfold okB
  rw [List.all_eq_true]
  constructor
  · intro h j hj
    have := h xs[j] (List.getElem_mem hj)
    simp only [decide_eq_true_eq] at this
    simpa [hj] using this
  · intro h x hx
    obtain ⟨j, hj, rfl⟩ := List.getElem_of_mem hx
    have := h j hj
    simpa [hj] using this
/-- the code of one lane -/
def rowC (xs : List Int) : Int := if 900 < xs.length then 2 else if okB xs = true then 0 else 3
def rowsC : List (List Int) → Int
  | [] => 0
  | xs :: r => if rowC xs = 0 then rowsC r else rowC xs
/-- the code of a tape -/
def tapeC (xss : List (List Int)) : Int := if xss.length = 4 then rowsC xss else 1
theorem rowsC_all : ∀ xss : List (List Int), (∀ j, j < xss.length → rowC (xss.getD j []) = 0) → rowsC xss = 0
  | [], _ => rfl
  | xs :: r, h => by
    have h0 := h 0 (by simp)
    simp only [List.getD_cons_zero] at h0
    rw [rowsC, if_pos h0]
    exact rowsC_all r fun j hj => by have := h (j + 1) (by simp; omega); simpa using this
theorem rowsC_first : ∀ (xss : List (List Int)) (k : Nat), k < xss.length → (∀ j, j < k → rowC (xss.getD j []) = 0) → rowC (xss.getD k []) ≠ 0 → rowsC xss = rowC (xss.getD k [])
  | [], k, hk, _, _ => by simp at hk
  | xs :: r, 0, _, _, h => by simp only [List.getD_cons_zero] at h ⊢; rw [rowsC, if_neg h]
  | xs :: r, k + 1, hk, ha, h => by
    have h0 := ha 0 (by omega)
    simp only [List.getD_cons_zero] at h0
    rw [rowsC, if_pos h0]
    simp only [List.getD_cons_succ] at h ⊢
    exact rowsC_first r k (by simpa using hk) (fun j hj => by have := ha (j + 1) (by omega); simpa using this) h
theorem rowC_many {xs : List Int} (h : 900 < xs.length) : rowC xs = 2 := if_pos h
theorem rowC_ok {xs : List Int} (h : ¬ 900 < xs.length) (k : okB xs = true) : rowC xs = 0 := by unfold rowC; rw [if_neg h, if_pos k]
theorem rowC_bad {xs : List Int} (h : ¬ 900 < xs.length) (k : ¬ okB xs = true) : rowC xs = 3 := by unfold rowC; rw [if_neg h, if_neg k]

end Go.Proofs.Ytepobckhfodngan
