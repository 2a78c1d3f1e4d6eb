/-
  Contract of the program's look over a list: is each one an element of q.
-/
import Derived.Test.YtepobckhfodngaoGreatRing
import Derived.Test.YtepobckhfodngaoGreatMem
namespace Go.Proofs.YtepobckhfodngaoGreat
open Go.ChangeShapes Go.WideShapes Go.ChangeAt Go.RowKit
set_option linter.unusedVariables false

def okE (q : Int) (xs : List Int) : Bool := xs.all (fun x => decide (0 ≤ x ∧ x < q))
theorem okE_iff (q : Int) (xs : List Int) : okE q xs = true ↔ ∀ j, j < xs.length → 0 ≤ xs.getD j 0 ∧ xs.getD j 0 < q := by
  unfold okE
  rw [List.all_eq_true]
  constructor
  · intro h j hj
    have := h xs[j] (List.getElem_mem hj)
    simp only [decide_eq_true_eq] at this
    simpa [hj] using this
  · intro h x hx
    obtain ⟨j, hj, rfl⟩ := List.getElem_of_mem hx
    have := h j hj
    simpa [hj] using this
/-- the code of a list of which each one has to be an element of q -/
def elC (q : Int) (xs : List Int) : Int := if okE q xs = true then 0 else 3
set_option maxHeartbeats 1000000 in
theorem impl_elementsFault (q : Int) (v : Value) (xs : List Int) (w : World) (hv : Reads w .i64 v xs) :
    Calls Tryz.prog 131 #[.int .i64 q, v] w fun e w' => e = .returned (.int .i64 (elC q xs)) ∧ w = w' := by
  obtain ⟨a, cap, rfl, hm, hA⟩ := hv
  unfold maxLen at hm
  by_cases hx : xs = []
  · subst hx
    simp only [List.length_nil]
    clear hA hm
    go_enter Tryz.func131, Tryz.ntmps131
    go_wp2
    refine wp_loop_rounds 1 ?_
    rw [rounds_succ]
    go_wp2
    go_ret
    exact ⟨rfl, rfl⟩
  · obtain ⟨g, o, rfl, hlt0, hc⟩ := hA hx
    clear hA
    generalize hn : xs.length = n at *
    have HL : Hid (xs.length = n) := hn
    clear hn
    go_enter Tryz.func131, Tryz.ntmps131
    go_wp2
    go_loop [6, 9] (fun _ i => ∃ k : Nat, k ≤ n ∧ i = .int .i64 k ∧ ∀ j, j < k → 0 ≤ xs.getD j 0 ∧ xs.getD j 0 < q) (fun _ i => n - (intOf i).toNat)
    case atStart => exact ⟨0, Nat.zero_le _, rfl, fun q hq => by omega⟩
    case round =>
      obtain ⟨k, hk, rfl, hall⟩ := hrel
      by_cases hlt : k < n
      · have c1 := hc k hlt
        have hi : (k : Int) < (n : Int) := by omega
        by_cases hgood : 0 ≤ xs.getD k 0 ∧ xs.getD k 0 < q
        · have HA : Hid (∀ j, j < k + 1 → 0 ≤ xs.getD j 0 ∧ xs.getD j 0 < q) := fun j hj => by
            rcases Nat.lt_or_ge j k with h | h
            · exact hall j h
            · rw [show j = k by omega]; exact hgood
          clear hall hc
          generalize xs.getD k 0 = y at *
          go_wp2_with fail
          refine (impl_isElement_yes _ _ _ hgood.1 hgood.2).mono ?_
          rintro e w' ⟨rfl, rfl⟩
          go_wp2
          go_round
          case rel => exact ⟨k + 1, by omega, by go_num, HA.out⟩
          case measure => simp [intOf]; omega
        · have HN : Hid (elC q xs = 3) := if_neg fun h => hgood ((okE_iff q xs).1 h k (by rw [HL.out]; exact hlt))
          clear hall hc
          generalize xs.getD k 0 = y at *
          go_wp2_with fail
          refine (impl_isElement_no _ _ _ (by omega)).mono ?_
          rintro e w' ⟨rfl, rfl⟩
          go_wp2
          go_ret
          exact ⟨by rw [HN.out]; rfl, rfl⟩
      · have HN : Hid (elC q xs = 0) := if_pos ((okE_iff q xs).2 fun j hj => hall j (by rw [HL.out] at hj; omega))
        clear hall hc
        go_wp2
        go_ret
        exact ⟨by rw [HN.out]; rfl, rfl⟩
end Go.Proofs.YtepobckhfodngaoGreat
