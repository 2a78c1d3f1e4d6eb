/-
  Contracts of chapter 4: who cheats, and when: in the program and in its model.
-/
import Derived.Test.YtepobckhfodnganBut
import Derived.Test.YtepobckhfodnganRing
namespace Go.Proofs.Ytepobckhfodngan
open Go.ChangeShapes Go.WideShapes Go.ChangeAt Go.RowKit
set_option linter.unusedVariables false


def cheatC (x : MCheat) : Int := if isBut x.xWho = true ∧ (0 ≤ x.xAt ∧ x.xAt ≤ 99999) ∧ (0 ≤ x.xBy ∧ x.xBy ≤ 255) then 0 else 3
theorem cheatC_zero {x : MCheat} (h : cheatC x = 0) : isBut x.xWho = true ∧ (0 ≤ x.xAt ∧ x.xAt ≤ 99999) ∧ (0 ≤ x.xBy ∧ x.xBy ≤ 255) := by
  unfold cheatC at h
  split at h
  · assumption
  · cases h
end Go.Proofs.Ytepobckhfodngan
