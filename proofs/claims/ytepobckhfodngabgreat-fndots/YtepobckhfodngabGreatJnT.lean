/-
  Contracts of chapter 4: who is trusted: in the program and in its model.
-/
import Derived.Test.YtepobckhfodngabGreatJnR
namespace Go.Proofs.YtepobckhfodngabGreat
open Go.ChangeShapes Go.WideShapes Go.ChangeAt Go.RowKit
set_option linter.unusedVariables false

theorem trustR_no {z : MQuarrel} (h : (judgeR z).xCode ≠ 0) : trustR z = ⟨(judgeR z).xCode, 0⟩ := if_neg h
theorem judgeR_some {z : MQuarrel} (h : (judgeR z).xCode = 0) : z.xSome = true ∧ Three z.xFrom z.xCheck z.xTo := by
  by_cases h0 : z.xSome = true
  · by_cases h1 : Three z.xFrom z.xCheck z.xTo
    · exact ⟨h0, h1⟩
    · rw [judgeR_out h0 h1] at h; cases h
  · rw [judgeR_none h0] at h; cases h
theorem judgeR_pair {z : MQuarrel} (h : (judgeR z).xCode = 0) : (judgeR z).xFirst = mn (qA z) (qB z) ∧ (judgeR z).xSecond = mx (qA z) (qB z) := by
  rw [judgeR_in (judgeR_some h).1 (judgeR_some h).2]
  exact ⟨rfl, rfl⟩
theorem trustR_yes {z : MQuarrel} (h : (judgeR z).xCode = 0) : trustR z = ⟨0, low (judgeR z).xFirst (judgeR z).xSecond⟩ := by
  unfold trustR
  rw [if_pos h, (judgeR_pair h).1, (judgeR_pair h).2]
end Go.Proofs.YtepobckhfodngabGreat
