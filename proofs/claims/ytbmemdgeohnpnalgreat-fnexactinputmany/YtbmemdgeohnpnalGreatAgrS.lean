/-
  Contracts of chapter 6's model: what three agree on.
-/
import Derived.Test.YtbmemdgeohnpnalGreatOrn
import Derived.Test.YtbmemdgeohnpnalGreatV5
import Derived.Deep.RegionHeld3
namespace Go.Proofs.YtbmemdgeohnpnalGreat
open Go.ChangeShapes Go.WideShapes Go.ChangeAt Go.RowKit
set_option linter.unusedVariables false
theorem okV_okE (q : Int) (xs : List Int) : okV q xs = okE q xs := by
  rw [Bool.eq_iff_iff, okV_iff, okE_iff]
theorem spec_l6Agree (a b c : Int) (w : World) : Calls Tryz.prog 118 #[.int .i64 a, .int .i64 b, .int .i64 c] w fun e w' => e = .returned (.int .i64 (major [a, b, c]).2) ∧ w = w' := by
  have K := fun V => spec_l1Major a b c V
  by_cases h1 : a = b ∨ a = c
  · have HM : Hid (major [a, b, c] = (0, a)) := by show _ = _; simp only [major]; rw [if_pos h1]
    rw [if_pos h1, show decide (a = b ∨ a = c ∨ b = c) = true from decide_eq_true (by omega)] at K
    clear h1
    go_enter Tryz.func118, Tryz.ntmps118
    go_wp2_with fail
    refine (K _).mono ?_
    rintro e w' ⟨rfl, rfl⟩
    go_wp2
    go_ret
    exact ⟨by rw [HM.out]; rfl, rfl⟩
  · by_cases h2 : b = c
    · have HM : Hid (major [a, b, c] = (0, b)) := by show _ = _; simp only [major]; rw [if_neg h1, if_pos h2]
      rw [if_neg h1, show decide (a = b ∨ a = c ∨ b = c) = true from decide_eq_true (by omega)] at K
      clear h1 h2
      go_enter Tryz.func118, Tryz.ntmps118
      go_wp2_with fail
      refine (K _).mono ?_
      rintro e w' ⟨rfl, rfl⟩
      go_wp2
      go_ret
      exact ⟨by rw [HM.out]; rfl, rfl⟩
    · have HM : Hid (major [a, b, c] = (4, 0)) := by show _ = _; simp only [major]; rw [if_neg h1, if_neg h2]
      rw [if_neg h1, show decide (a = b ∨ a = c ∨ b = c) = false from decide_eq_false (by omega)] at K
      clear h1 h2
      go_enter Tryz.func118, Tryz.ntmps118
      go_wp2_with fail
      refine (K _).mono ?_
      rintro e w' ⟨rfl, rfl⟩
      go_wp2
      go_ret
      exact ⟨by rw [HM.out]; rfl, rfl⟩
end Go.Proofs.YtbmemdgeohnpnalGreat
