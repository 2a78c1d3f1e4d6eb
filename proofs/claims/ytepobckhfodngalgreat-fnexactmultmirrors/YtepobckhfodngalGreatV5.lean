/-
  Contract of chapter 5's model: is each one of a list an element of q.
-/
import Derived.Test.YtepobckhfodngalGreatMirS
namespace Go.Proofs.YtepobckhfodngalGreat
open Go.ChangeShapes Go.WideShapes Go.ChangeAt Go.RowKit
set_option linter.unusedVariables false
set_option maxHeartbeats 1000000 in
theorem spec_l5View (q : Int) (v : Value) (xs : List Int) (w : World) (hq : 1 ≤ q) (hq' : q ≤ 256) (hv : Reads w .i64 v xs) :
    Calls Tryz.prog 56 #[.int .i64 q, v] w fun e w' => e = .returned (.bool (okV q xs)) ∧ w = w' := by
  have hm := hv.le
  unfold maxLen at hm
  obtain ⟨p, c, rfl⟩ := hv.shp
  go_enter Tryz.func56, Tryz.ntmps56
  go_wp2
  go_loop [5] (fun i => ∃ k : Nat, k ≤ xs.length ∧ i = .int .i64 k ∧ ∀ j, j < k → 0 ≤ xs.getD j 0 ∧ xs.getD j 0 < q) (fun i => xs.length - (intOf i).toNat)
  case atStart => exact ⟨0, Nat.zero_le _, rfl, fun q hq => by omega⟩
  case round =>
    obtain ⟨k, hk, rfl, hall⟩ := hrel
    by_cases hlt : k < xs.length
    · obtain ⟨g2, o2, rfl, hl2, c1⟩ := hv.one k hlt
      have hi : (k : Int) < (xs.length : Int) := by omega
      by_cases hgood : 0 ≤ xs.getD k 0 ∧ xs.getD k 0 < q
      · have HA : Hid (∀ j, j < k + 1 → 0 ≤ xs.getD j 0 ∧ xs.getD j 0 < q) := fun j hj => by
          rcases Nat.lt_or_ge j k with h | h
          · exact hall j h
          · rw [show j = k by omega]; exact hgood
        clear hall
        generalize xs.getD k 0 = y at *
        go_wp2_with fail
        refine (spec_l1Has_yes _ _ _ hq hq' hgood.1 hgood.2).mono ?_
        rintro e w' ⟨rfl, rfl⟩
        go_wp2
        go_round
        case rel => exact ⟨k + 1, by omega, by go_num, HA.out⟩
        case measure => simp [intOf]; omega
      · have HN : Hid (okV q xs = false) := by show _ = _; rw [Bool.eq_false_iff]; exact fun h => hgood ((okV_iff q xs).1 h k hlt)
        clear hall
        generalize xs.getD k 0 = y at *
        go_wp2_with fail
        refine (spec_l1Has_no _ _ _ hq hq' (by omega)).mono ?_
        rintro e w' ⟨rfl, rfl⟩
        go_wp2
        go_ret
        exact ⟨by rw [HN.out]; rfl, rfl⟩
    · have HN : Hid (okV q xs = true) := (okV_iff q xs).2 fun j hj => hall j (by omega)
      clear hall
      obtain rfl : k = xs.length := by omega
      go_wp2
      go_ret
      exact ⟨by rw [HN.out]; rfl, rfl⟩
end Go.Proofs.YtepobckhfodngalGreat
