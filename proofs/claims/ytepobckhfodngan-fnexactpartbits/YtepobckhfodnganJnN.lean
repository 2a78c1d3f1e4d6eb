/-
  Contracts of chapter 4: faults of nets: in the program and in its model.
-/
import Derived.Test.YtepobckhfodnganJnC
import Derived.Test.YtepobckhfodnganEl
namespace Go.Proofs.Ytepobckhfodngan
open Go.ChangeShapes Go.WideShapes Go.ChangeAt Go.RowKit
set_option linter.unusedVariables false

def okN (xs : List Int) : Bool := xs.all (fun x => decide (0 ≤ x ∧ x ≤ 99999))
theorem okN_iff (xs : List Int) : okN xs = true ↔ ∀ j, j < xs.length → 0 ≤ xs.getD j 0 ∧ xs.getD j 0 ≤ 99999 := by
  unfold okN
  rw [List.all_eq_true]
  constructor
  · intro h j hj
    have := h xs[j] (List.getElem_mem hj)
    simp only [decide_eq_true_eq] at this
    simpa [hj] using this
  · intro h x hx
    obtain ⟨j, hj, rfl⟩ := List.getElem_of_mem hx
    have := h j hj
    simpa [hj] using this
def okM (xss : List (List Int)) : Bool := xss.all okB
theorem okM_iff (xss : List (List Int)) : okM xss = true ↔ ∀ j, j < xss.length → okB (xss.getD j []) = true := by
  unfold okM
  rw [List.all_eq_true]
  constructor
  · intro h j hj
    have := h xss[j] (List.getElem_mem hj)
    simpa [hj] using this
  · intro h x hx
    obtain ⟨j, hj, rfl⟩ := List.getElem_of_mem hx
    have := h j hj
    simpa [hj] using this
def listsB (x : MNet) : Bool := okN x.xUsed && (okM x.xHeard && decide (0 ≤ x.xSent ∧ x.xSent ≤ 99999))
theorem listsB_iff (x : MNet) : listsB x = true ↔ okN x.xUsed = true ∧ okM x.xHeard = true ∧ (0 ≤ x.xSent ∧ x.xSent ≤ 99999) := by
  unfold listsB
  rw [Bool.and_eq_true, Bool.and_eq_true, decide_eq_true_eq]
theorem listsB_no {x : MNet} (h : ¬ (okN x.xUsed = true ∧ okM x.xHeard = true ∧ (0 ≤ x.xSent ∧ x.xSent ≤ 99999))) : listsB x = false := by
  rw [Bool.eq_false_iff]
  exact fun k => h ((listsB_iff x).1 k)
/-- the code of a net -/
def netC (x : MNet) : Int := if tapeC x.xTape = 0 then (if x.xUsed.length = 4 ∧ x.xHeard.length = 4 then (if listsB x = true then cheatC x.xCheat else 3) else 1) else tapeC x.xTape
theorem netC_tape {x : MNet} (h : tapeC x.xTape ≠ 0) : netC x = tapeC x.xTape := if_neg h
theorem netC_form {x : MNet} (h : tapeC x.xTape = 0) (k : ¬ (x.xUsed.length = 4 ∧ x.xHeard.length = 4)) : netC x = 1 := by unfold netC; rw [if_pos h, if_neg k]
theorem netC_lists {x : MNet} (h : tapeC x.xTape = 0) (k : x.xUsed.length = 4 ∧ x.xHeard.length = 4) (l : ¬ listsB x = true) : netC x = 3 := by unfold netC; rw [if_pos h, if_pos k, if_neg l]
theorem netC_cheat {x : MNet} (h : tapeC x.xTape = 0) (k : x.xUsed.length = 4 ∧ x.xHeard.length = 4) (l : listsB x = true) : netC x = cheatC x.xCheat := by unfold netC; rw [if_pos h, if_pos k, if_pos l]
theorem netC_zero {x : MNet} (h : netC x = 0) : tapeC x.xTape = 0 ∧ (x.xUsed.length = 4 ∧ x.xHeard.length = 4) ∧ listsB x = true ∧ cheatC x.xCheat = 0 := by
  by_cases h1 : tapeC x.xTape = 0
  · by_cases h2 : x.xUsed.length = 4 ∧ x.xHeard.length = 4
    · by_cases h3 : listsB x = true
      · exact ⟨h1, h2, h3, by rw [netC_cheat h1 h2 h3] at h; exact h⟩
      · rw [netC_lists h1 h2 h3] at h; cases h
    · rw [netC_form h1 h2] at h; cases h
  · rw [netC_tape h1] at h; exact absurd h h1
def cntC (x : MNet) : Int := if okN x.xUsed = true ∧ (0 ≤ x.xSent ∧ x.xSent ≤ 99999) then 0 else 3
def hrdC (xss : List (List Int)) : Int := if okM xss = true then 0 else 3
theorem okB_el (xs : List Int) : okB xs = true ↔ okE 256 xs = true := by
  rw [okB_iff, okE_iff]
  exact ⟨fun h j hj => by have := h j hj; omega, fun h j hj => by have := h j hj; omega⟩
end Go.Proofs.Ytepobckhfodngan
