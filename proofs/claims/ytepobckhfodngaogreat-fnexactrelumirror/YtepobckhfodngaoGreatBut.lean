/-
  Who is a party, or nobody: in the program and in its model.
-/
import Derived.Test.YtepobckhfodngaoGreatTapeW
namespace Go.Proofs.YtepobckhfodngaoGreat
open Go.ChangeShapes Go.WideShapes Go.ChangeAt Go.RowKit
set_option linter.unusedVariables false

def isBut (but : Int) : Bool := decide (but = -1 ∨ (0 ≤ but ∧ but ≤ 3))
theorem spec_l3But (but : Int) (w : World) : Calls Tryz.prog 125 #[.int .i64 but] w fun e w' => e = .returned (.bool (isBut but)) ∧ w = w' := by
  by_cases h1 : but = -1
  · subst h1
    go_enter Tryz.func125, Tryz.ntmps125
    go_wp2
    go_ret
    exact ⟨rfl, rfl⟩
  · have hne : (but == -1) = false := by simpa using h1
    by_cases h2 : 0 ≤ but ∧ but ≤ 3
    · have HB : Hid (isBut but = true) := decide_eq_true (.inr h2)
      clear h1
      go_enter Tryz.func125, Tryz.ntmps125
      go_wp2_with fail
      refine (spec_l2Party_yes _ _ h2).mono ?_
      rintro e w' ⟨rfl, rfl⟩
      go_wp2
      go_ret
      exact ⟨by rw [HB.out]; rfl, rfl⟩
    · have HB : Hid (isBut but = false) := decide_eq_false (fun h => h.elim h1 h2)
      clear h1
      go_enter Tryz.func125, Tryz.ntmps125
      go_wp2_with fail
      refine (spec_l2Party_no _ _ h2).mono ?_
      rintro e w' ⟨rfl, rfl⟩
      go_wp2
      go_ret
      exact ⟨by rw [HB.out]; rfl, rfl⟩
theorem impl_isPartyOrNobody (but : Int) (w : World) : Calls Tryz.prog 132 #[.int .i64 but] w fun e w' => e = .returned (.bool (isBut but)) ∧ w = w' := by
  by_cases h1 : but = -1
  · subst h1
    go_enter Tryz.func132, Tryz.ntmps132
    go_wp2
    go_ret
    exact ⟨rfl, rfl⟩
  · have hne : (but == -1) = false := by simpa using h1
    by_cases h2 : 0 ≤ but ∧ but ≤ 3
    · have HB : Hid (isBut but = true) := decide_eq_true (.inr h2)
      clear h1
      go_enter Tryz.func132, Tryz.ntmps132
      go_wp2_with fail
      refine (impl_isParty_yes _ _ h2).mono ?_
      rintro e w' ⟨rfl, rfl⟩
      go_wp2
      go_ret
      exact ⟨by rw [HB.out]; rfl, rfl⟩
    · have HB : Hid (isBut but = false) := decide_eq_false (fun h => h.elim h1 h2)
      clear h1
      go_enter Tryz.func132, Tryz.ntmps132
      go_wp2_with fail
      refine (impl_isParty_no _ _ h2).mono ?_
      rintro e w' ⟨rfl, rfl⟩
      go_wp2
      go_ret
      exact ⟨by rw [HB.out]; rfl, rfl⟩
end Go.Proofs.YtepobckhfodngaoGreat
