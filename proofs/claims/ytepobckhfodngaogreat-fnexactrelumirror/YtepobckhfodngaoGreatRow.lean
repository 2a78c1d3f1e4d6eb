/-
  Structs as rows of cells that may be laid into a block.
-/
import Derived.Test.YtepobckhfodngaoGreatWhole
namespace Go.Proofs.YtepobckhfodngaoGreat
open Go.ChangeShapes Go.WideShapes Go.ChangeAt Go.RowKit
set_option linter.unusedVariables false

theorem RdTape.row {w : World} {v : Value} {x : List (List Int)} (h : RdTape w v x) : ∃ cs, v = .agg cs ∧ Rw 1 cs := by
  obtain ⟨p0, c0, rfl, _⟩ := h
  exact ⟨_, rfl, rfl, by kernel_rfl⟩
theorem OwTape.row {w : World} {v : Value} {x : List (List Int)} {b0 : List Nat} (h : OwTape w v x b0) : ∃ cs, v = .agg cs ∧ Rw 1 cs := h.rd.row
theorem RdMirror.row {w : World} {v : Value} {x : MMirror} (h : RdMirror w v x) : ∃ cs, v = .agg cs ∧ Rw 2 cs := by
  obtain ⟨p0, c0, rfl, _⟩ := h
  exact ⟨_, rfl, rfl, by kernel_rfl⟩
theorem OwMirror.row {w : World} {v : Value} {x : MMirror} {b0 : List Nat} (h : OwMirror w v x b0) : ∃ cs, v = .agg cs ∧ Rw 2 cs := h.rd.row
theorem RdMixResult.row {w : World} {v : Value} {x : MMixResult} (h : RdMixResult w v x) : ∃ cs, v = .agg cs ∧ Rw 19 cs := by
  obtain ⟨p0, c0, p1, c1, p2, c2, p3, c3, rfl, _⟩ := h
  exact ⟨_, rfl, rfl, by kernel_rfl⟩
theorem OwMixResult.row {w : World} {v : Value} {x : MMixResult} {b0 b1 b2 b3 : List Nat} (h : OwMixResult w v x b0 b1 b2 b3) : ∃ cs, v = .agg cs ∧ Rw 19 cs := h.rd.row
end Go.Proofs.YtepobckhfodngaoGreat
