/-
  Contracts of chapter 3's model: what a mirror is worth; the exported functions that ask only.
-/
import Derived.Test.YtepobckhfodngaoGreatMirA
namespace Go.Proofs.YtepobckhfodngaoGreat
open Go.ChangeShapes Go.WideShapes Go.ChangeAt Go.RowKit
set_option linter.unusedVariables false

theorem sumK_le {q : Int} {xss : List (List Int)} (but : Int) (hq : isQ q) (h : ∀ i j, 0 ≤ (xss.getD i []).getD j 0 ∧ (xss.getD i []).getD j 0 < q) : ∀ n : Nat, 0 ≤ sumK xss but n ∧ sumK xss but n ≤ 256 * n
  | 0 => by simp [sumK]
  | n + 1 => by
    have h1 := sumK_le but hq h n
    have h2 : 0 ≤ pt xss (knower n but) n ∧ pt xss (knower n but) n < q := h _ _
    rw [sumK]
    rcases hq with rfl | rfl <;> omega
theorem valueR_fault {q : Int} {xss : List (List Int)} (but : Int) (h : mirC q xss ≠ 0) : valueR q xss but = ⟨mirC q xss, 0⟩ := if_neg h
theorem valueR_but {q : Int} {xss : List (List Int)} {but : Int} (h : mirC q xss = 0) (k : isBut but = false) : valueR q xss but = ⟨3, 0⟩ := by unfold valueR; rw [if_pos h, if_neg (by simp [k])]
theorem valueR_state {q : Int} {xss : List (List Int)} {but : Int} (h : mirC q xss = 0) (k : isBut but = true) (a : alikeB xss but = false) : valueR q xss but = ⟨6, 0⟩ := by unfold valueR; rw [if_pos h, if_pos k, if_neg (by simp [a])]
theorem valueR_ok {q : Int} {xss : List (List Int)} {but : Int} (h : mirC q xss = 0) (k : isBut but = true) (a : alikeB xss but = true) : valueR q xss but = ⟨0, sumK xss but 4 % q⟩ := by unfold valueR; rw [if_pos h, if_pos k, if_pos a]
end Go.Proofs.YtepobckhfodngaoGreat
