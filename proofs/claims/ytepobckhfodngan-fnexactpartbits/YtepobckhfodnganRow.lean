/-
  Structs as rows of cells that may be laid into a block.
-/
import Derived.Test.YtepobckhfodnganWhole
namespace Go.Proofs.Ytepobckhfodngan
open Go.ChangeShapes Go.WideShapes Go.ChangeAt Go.RowKit
set_option linter.unusedVariables false

theorem RdMirror.row {w : World} {v : Value} {x : MMirror} (h : RdMirror w v x) : ∃ cs, v = .agg cs ∧ Rw 2 cs := by
  obtain ⟨p0, c0, rfl, _⟩ := h
  exact ⟨_, rfl, rfl, by kernel_rfl⟩
theorem OwMirror.row {w : World} {v : Value} {x : MMirror} {b0 : List Nat} (h : OwMirror w v x b0) : ∃ cs, v = .agg cs ∧ Rw 2 cs := h.rd.row
end Go.Proofs.Ytepobckhfodngan
