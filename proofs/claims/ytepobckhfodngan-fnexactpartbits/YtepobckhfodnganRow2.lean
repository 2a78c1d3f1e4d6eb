/-
  Structs that hold lists of mirrors, as rows of cells.
-/
import Derived.Test.YtepobckhfodnganRow
import Derived.Test.YtepobckhfodnganTy2
namespace Go.Proofs.Ytepobckhfodngan
open Go.ChangeShapes Go.WideShapes Go.ChangeAt Go.RowKit
set_option linter.unusedVariables false

theorem RdManyBits.row {w : World} {v : Value} {x : MManyBits} (h : RdManyBits w v x) : ∃ cs, v = .agg cs ∧ Rw 2 cs := by
  obtain ⟨p0, c0, rfl, _⟩ := h
  exact ⟨_, rfl, rfl, by kernel_rfl⟩
theorem OwManyBits.row {w : World} {v : Value} {x : MManyBits} {b0 : List Nat} (h : OwManyBits w v x b0) : ∃ cs, v = .agg cs ∧ Rw 2 cs := h.rd.row
end Go.Proofs.Ytepobckhfodngan
