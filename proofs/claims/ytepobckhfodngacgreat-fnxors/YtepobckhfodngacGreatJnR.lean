/-
  Contracts of chapter 4: who is told apart, and who is trusted: in the program and in its model.
-/
import Derived.Test.YtepobckhfodngacGreatJnQ
namespace Go.Proofs.YtepobckhfodngacGreat
open Go.ChangeShapes Go.WideShapes Go.ChangeAt Go.RowKit
set_option linter.unusedVariables false

theorem judgeR_none {z : MQuarrel} (h : ¬ z.xSome = true) : judgeR z = ⟨4, 0, 0⟩ := if_neg h
theorem judgeR_out {z : MQuarrel} (h : z.xSome = true) (k : ¬ Three z.xFrom z.xCheck z.xTo) : judgeR z = ⟨3, 0, 0⟩ := by unfold judgeR; rw [if_pos h, if_neg k]
theorem judgeR_in {z : MQuarrel} (h : z.xSome = true) (k : Three z.xFrom z.xCheck z.xTo) : judgeR z = ⟨0, mn (qA z) (qB z), mx (qA z) (qB z)⟩ := by unfold judgeR; rw [if_pos h, if_pos k]
end Go.Proofs.YtepobckhfodngacGreat
