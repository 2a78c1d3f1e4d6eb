/-
  Contracts of chapter 2's model: what its functions answer, as plain functions of the lists.
-/
import Derived.Test.YtepobckhfodngaoGreatTy
import Derived.Test.YtepobckhfodngaoGreatRing
namespace Go.Proofs.YtepobckhfodngaoGreat
open Go.ChangeShapes Go.WideShapes Go.ChangeAt Go.RowKit
set_option linter.unusedVariables false

def okB (xs : List Int) : Bool := xs.all (fun x => decide (0 ≤ x ∧ x ≤ 255))
theorem okB_iff (xs : List Int) : okB xs = true ↔ ∀ j, j < xs.length → 0 ≤ xs.getD j 0 ∧ xs.getD j 0 ≤ 255 := by
  unfold okB
  rw [List.all_eq_true]
  constructor
  · intro h j hj
    have := h xs[j] (List.getElem_mem hj)
    simp only [decide_eq_true_eq] at this
    simpa [hj] using this
  · intro h x hx
    obtain ⟨j, hj, rfl⟩ := List.getElem_of_mem hx
    have := h j hj
    simpa [hj] using this
/-- the code of one lane -/
def rowC (xs : List Int) : Int := if 900 < xs.length then 2 else if okB xs = true then 0 else 3
def rowsC : List (List Int) → Int
  | [] => 0
  | xs :: r => if rowC xs = 0 then rowsC r else rowC xs
/-- the code of a tape -/
def tapeC (xss : List (List Int)) : Int := if xss.length = 4 then rowsC xss else 1
theorem rowsC_all : ∀ xss : List (List Int), (∀ j, j < xss.length → rowC (xss.getD j []) = 0) → rowsC xss = 0
  | [], _ => rfl
  | xs :: r, h => by
    have h0 := h 0 (by simp)
    simp only [List.getD_cons_zero] at h0
    rw [rowsC, if_pos h0]
    exact rowsC_all r fun j hj => by have := h (j + 1) (by simp; omega); simpa using this
theorem rowsC_first : ∀ (xss : List (List Int)) (k : Nat), k < xss.length → (∀ j, j < k → rowC (xss.getD j []) = 0) → rowC (xss.getD k []) ≠ 0 → rowsC xss = rowC (xss.getD k [])
  | [], k, hk, _, _ => by simp at hk
  | xs :: r, 0, _, _, h => by simp only [List.getD_cons_zero] at h ⊢; rw [rowsC, if_neg h]
  | xs :: r, k + 1, hk, ha, h => by
    have h0 := ha 0 (by omega)
    simp only [List.getD_cons_zero] at h0
    rw [rowsC, if_pos h0]
    simp only [List.getD_cons_succ] at h ⊢
    exact rowsC_first r k (by simpa using hk) (fun j hj => by have := ha (j + 1) (by omega); simpa using this) h
theorem rowC_many {xs : List Int} (h : 900 < xs.length) : rowC xs = 2 := if_pos h
theorem rowC_ok {xs : List Int} (h : ¬ 900 < xs.length) (k : okB xs = true) : rowC xs = 0 := by unfold rowC; rw [if_neg h, if_pos k]
theorem rowC_bad {xs : List Int} (h : ¬ 900 < xs.length) (k : ¬ okB xs = true) : rowC xs = 3 := by unfold rowC; rw [if_neg h, if_neg k]

set_option maxHeartbeats 2000000 in
theorem spec_l2Fault_at (b : Nat) (v : Value) (xss : List (List Int)) (w : World) (cb : w.cell? ⟨b, 0, none⟩ = some v) (hv : ReadsM w v xss) :
    Calls Tryz.prog 99 #[.pointer (some ⟨b, 0, none⟩)] w fun e w' => e = .returned (.int .i64 (tapeC xss)) ∧ w = w' := by
  obtain ⟨a, cap, rfl, hm, hA⟩ := hv
  unfold maxLen at hm
  by_cases hl : xss.length = 4
  · obtain ⟨g, o, rfl, hlt0, hc⟩ := hA (by intro h; rw [h] at hl; simp at hl)
    have HL : Hid (xss.length = 4) := hl
    have HT : Hid (tapeC xss = rowsC xss) := if_pos hl
    rw [hl] at hc cb
    clear hA hl hm
    go_enter Tryz.func99, Tryz.ntmps99
    go_wp2_with fail
    go_loop [3, 4] (fun j i => ∃ k : Nat, k ≤ 4 ∧ j = .int .i64 k ∧ ∀ m, m < k → rowC (xss.getD m []) = 0) (fun j _ => 4 - (intOf j).toNat)
    case atStart => exact ⟨0, Nat.zero_le _, rfl, fun m hm => by omega⟩
    case round =>
      obtain ⟨k, hk, rfl, hg⟩ := hrel
      by_cases hlt : k < 4
      · obtain ⟨p, c, c0, hr⟩ := hc k hlt
        have HG : Hid (∀ m, m < k → rowC (xss.getD m []) = 0) := hg
        have HF := fun h => rowsC_first xss k (by rw [HL.out]; exact hlt) HG.out h
        have hi : (k : Int) < 4 := by omega
        clear hg hc
        generalize hys : xss.getD k [] = ys at *
        have HY : Hid (xss.getD k [] = ys) := hys
        clear hys
        have hyl : ys.length ≤ maxLen := by obtain ⟨_, _, _, h, _⟩ := hr; exact h
        unfold maxLen at hyl
        by_cases hmany : 900 < ys.length
        · have hF := HF (by rw [rowC_many hmany]; omega)
          rw [rowC_many hmany] at hF
          have HN : Hid (tapeC xss = 2) := HT.out.trans hF
          clear hF HF hr
          go_wp2
          go_ret
          exact ⟨by rw [HN.out]; rfl, rfl⟩
        · obtain ⟨p', c', hpc, _, hcc⟩ := hr
          simp at hpc
          obtain ⟨rfl, rfl⟩ := hpc
          by_cases hemp : ys = []
          · subst hemp
            have h0 : rowC [] = 0 := rfl
            have HG' : Hid (∀ m, m < k + 1 → rowC (xss.getD m []) = 0) := fun m hm => by
              rcases Nat.lt_or_ge m k with h | h
              · exact HG.out m h
              · rw [show m = k by omega, HY.out]; rfl
            clear HF hcc
            simp only [List.length_nil] at *
            go_wp2_with fail
            refine wp_loop_rounds 1 ?_
            rw [rounds_succ]
            go_wp2
            go_round
            case rel => exact ⟨k + 1, by omega, by go_num, HG'.out⟩
            case measure => simp [intOf]; omega
          · obtain ⟨h, oh, rfl, hlth, ch⟩ := hcc hemp
            clear hcc
            generalize hn : ys.length = n at *
            go_wp2_with fail
            go_loop [4] (fun i => ∃ m : Nat, m ≤ n ∧ i = .int .i64 m ∧ ∀ q, q < m → 0 ≤ ys.getD q 0 ∧ ys.getD q 0 ≤ 255) (fun i => n - (intOf i).toNat)
            case atStart => exact ⟨0, Nat.zero_le _, rfl, fun q hq => by omega⟩
            case round =>
              obtain ⟨m, hm, rfl, hall⟩ := hrel
              by_cases hlt2 : m < n
              · have c1 := ch m hlt2
                have hi2 : (m : Int) < (n : Int) := by omega
                by_cases hgood : 0 ≤ ys.getD m 0 ∧ ys.getD m 0 ≤ 255
                · have HA : Hid (∀ q, q < m + 1 → 0 ≤ ys.getD q 0 ∧ ys.getD q 0 ≤ 255) := fun q hq => by
                    rcases Nat.lt_or_ge q m with h | h
                    · exact hall q h
                    · rw [show q = m by omega]; exact hgood
                  clear hall ch HF
                  generalize ys.getD m 0 = y at *
                  go_wp2_with fail
                  refine (spec_l1Has_yes _ _ _ (by omega) (by omega) hgood.1 (by omega)).mono ?_
                  rintro e w' ⟨rfl, rfl⟩
                  go_wp2
                  go_round
                  case rel => exact ⟨m + 1, by omega, by go_num, HA.out⟩
                  case measure => simp [intOf]; omega
                · have hbad : ¬ okB ys = true := fun h => hgood ((okB_iff ys).1 h m (by omega))
                  have hF := HF (by rw [rowC_bad (by omega) hbad]; omega)
                  rw [rowC_bad (by omega) hbad] at hF
                  have HN : Hid (tapeC xss = 3) := HT.out.trans hF
                  clear hall ch HF hF hbad
                  generalize ys.getD m 0 = y at *
                  go_wp2_with fail
                  refine (spec_l1Has_no _ _ _ (by omega) (by omega) (by omega)).mono ?_
                  rintro e w' ⟨rfl, rfl⟩
                  go_wp2
                  go_ret
                  exact ⟨by rw [HN.out]; rfl, rfl⟩
              · have hok : okB ys = true := (okB_iff ys).2 fun q hq => hall q (by omega)
                have HG' : Hid (∀ m, m < k + 1 → rowC (xss.getD m []) = 0) := fun m hm => by
                  rcases Nat.lt_or_ge m k with h | h
                  · exact HG.out m h
                  · rw [show m = k by omega, HY.out]; exact rowC_ok (by omega) hok
                clear hall ch HF hok
                go_wp2
                go_round
                case rel => exact ⟨k + 1, by omega, by go_num, HG'.out⟩
                case measure => simp [intOf]; omega
      · obtain rfl : k = 4 := by omega
        have HN : Hid (tapeC xss = 0) := HT.out.trans (rowsC_all xss fun j hj => hg j (by rw [HL.out] at hj; exact hj))
        clear hg hc
        go_wp2
        go_ret
        exact ⟨by rw [HN.out]; rfl, rfl⟩
  · have HN : Hid (tapeC xss = 1) := if_neg hl
    have hne : ((xss.length : Int) == 4) = false := by simp; omega
    go_enter Tryz.func99, Tryz.ntmps99
    go_wp2
    go_ret
    exact ⟨by rw [HN.out]; rfl, rfl⟩
theorem spec_l2Fault (b : Nat) (v : Value) (xss : List (List Int)) (w : World) (hb : Blk w b 37 #[v]) (hv : ReadsM w v xss) :
    Calls Tryz.prog 99 #[.pointer (some ⟨b, 0, none⟩)] w fun e w' => e = .returned (.int .i64 (tapeC xss)) ∧ w = w' :=
  spec_l2Fault_at b v xss w (by rw [hb.at.1]; rfl) hv
end Go.Proofs.YtepobckhfodngaoGreat
