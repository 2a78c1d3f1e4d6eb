/-
  Rows of products in the model: DotMirrors.
-/
import Derived.Test.YtepobckhfodngaoGreatDotX
import Derived.Test.YtepobckhfodngaoGreatSpD
import Derived.Test.YtepobckhfodngaoGreatSpF
namespace Go.Proofs.YtepobckhfodngaoGreat
open Go.ChangeShapes Go.WideShapes Go.ChangeAt Go.RowKit
set_option linter.unusedVariables false

theorem quietC_zero {x : MNet} (h1 : quietC x = 0) : netC x = 0 ∧ x.xQuarrel.xSome = false := by
  unfold quietC at h1
  by_cases k0 : netC x = 0
  · rw [if_pos k0] at h1
    refine ⟨k0, ?_⟩
    by_cases k1 : x.xQuarrel.xSome = true
    · rw [if_pos k1] at h1; cases h1
    · simpa using k1
  · rw [if_neg k0] at h1; exact absurd h1 k0
theorem dotCS_zero {x : MNet} {xs ys : List MMirror} (h : dotCS x xs ys = 0) : netC x = 0 ∧ x.xQuarrel.xSome = false ∧ RowOk (xs.getD 0 zM).xQ xs.length xs ys := by
  by_cases h1 : quietC x = 0
  · by_cases h2 : dotM xs ys
    · by_cases h3 : fltC xs = 0
      · by_cases h4 : fltC ys = 0
        · by_cases h5 : sameQ xs ys
          · exact ⟨(quietC_zero h1).1, (quietC_zero h1).2, rowOk_of ⟨h2.1, h2.2.1⟩ rfl h2.2.2 (fun j hj => ⟨fltC_zero h3 j hj, (h5 j hj).1⟩) (fun j hj => ⟨fltC_zero h4 j hj, (h5 j (by rw [← h2.2.2]; exact hj)).2⟩)⟩
          · rw [dotCS_q h1 h2 h3 h4 h5] at h; cases h
        · rw [dotCS_y h1 h2 h3 h4] at h; exact absurd h h4
      · rw [dotCS_x h1 h2 h3] at h; exact absurd h h3
    · rw [dotCS_many h1 h2] at h; cases h
  · rw [dotCS_net h1] at h; exact absurd h h1
end Go.Proofs.YtepobckhfodngaoGreat
