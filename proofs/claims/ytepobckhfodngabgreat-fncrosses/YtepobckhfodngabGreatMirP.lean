/-
  Contracts of chapter 3 of the program: mirrors that are made.
-/
import Derived.Test.YtepobckhfodngabGreatMirK
namespace Go.Proofs.YtepobckhfodngabGreat
open Go.ChangeShapes Go.WideShapes Go.ChangeAt Go.RowKit
set_option linter.unusedVariables false

theorem mirRows_sq {xs : List Int} (h : xs.length = 4) : Sq (mirRows xs) := by
  obtain ⟨a, b, c, d, rfl⟩ := four xs h
  exact Sq.of ..
theorem mirRows_getD {xs : List Int} (h : xs.length = 4) (k : Nat) (hk : k < 4) : (mirRows xs).getD k [] = xs.set k 0 := by simp [mirRows, hk]
end Go.Proofs.YtepobckhfodngabGreat
