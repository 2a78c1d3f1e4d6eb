/-
  Structs that hold lists of mirrors, as rows of cells.
-/
import Derived.Test.YtbmemdgeohnpnalGreatRow
import Derived.Test.YtbmemdgeohnpnalGreatTy2
namespace Go.Proofs.YtbmemdgeohnpnalGreat
open Go.ChangeShapes Go.WideShapes Go.ChangeAt Go.RowKit
set_option linter.unusedVariables false

theorem RdManyResult.row {w : World} {v : Value} {x : MManyResult} (h : RdManyResult w v x) : ∃ cs, v = .agg cs ∧ Rw 18 cs := by
  obtain ⟨p0, c0, p1, c1, p2, c2, p3, c3, rfl, _⟩ := h
  exact ⟨_, rfl, rfl, by kernel_rfl⟩
theorem OwManyResult.row {w : World} {v : Value} {x : MManyResult} {b0 b1 b2 b3 : List Nat} (h : OwManyResult w v x b0 b1 b2 b3) : ∃ cs, v = .agg cs ∧ Rw 18 cs := h.rd.row
end Go.Proofs.YtbmemdgeohnpnalGreat
