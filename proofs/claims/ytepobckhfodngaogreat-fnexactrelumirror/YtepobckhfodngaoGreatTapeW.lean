/-
  Contracts of chapter 2: one word of a lane, in the program and in its model.
-/
import Derived.Test.YtepobckhfodngaoGreatTapeI
namespace Go.Proofs.YtepobckhfodngaoGreat
open Go.ChangeShapes Go.WideShapes Go.ChangeAt Go.RowKit
set_option linter.unusedVariables false

def word (xss : List (List Int)) (lane n : Int) : Int := (xss.getD lane.toNat []).getD n.toNat 0
def wordR (xss : List (List Int)) (lane n : Int) : MIntResult := if tapeC xss = 0 then (if (0 ≤ lane ∧ lane ≤ 3) ∧ 0 ≤ n then ⟨0, word xss lane n⟩ else ⟨3, 0⟩) else ⟨tapeC xss, 0⟩
theorem wordR_fault {xss : List (List Int)} (lane n : Int) (h : tapeC xss ≠ 0) : wordR xss lane n = ⟨tapeC xss, 0⟩ := if_neg h
theorem wordR_out {xss : List (List Int)} {lane n : Int} (h : tapeC xss = 0) (k : ¬ ((0 ≤ lane ∧ lane ≤ 3) ∧ 0 ≤ n)) : wordR xss lane n = ⟨3, 0⟩ := by unfold wordR; rw [if_pos h, if_neg k]
theorem wordR_in {xss : List (List Int)} {lane n : Int} (h : tapeC xss = 0) (k : (0 ≤ lane ∧ lane ≤ 3) ∧ 0 ≤ n) : wordR xss lane n = ⟨0, word xss lane n⟩ := by unfold wordR; rw [if_pos h, if_pos k]
theorem tapeC_four {xss : List (List Int)} (h : tapeC xss = 0) : xss.length = 4 := by
  unfold tapeC at h
  split at h
  · assumption
  · cases h
theorem rowsC_zero : ∀ {xss : List (List Int)}, rowsC xss = 0 → ∀ j, j < xss.length → rowC (xss.getD j []) = 0
  | [], _, j, hj => by simp at hj
  | xs :: r, h, 0, _ => by
    rw [rowsC] at h
    split at h
    · simpa using ‹_›
    · contradiction
  | xs :: r, h, j + 1, hj => by
    rw [rowsC] at h
    split at h
    · simpa using rowsC_zero h j (by simpa using hj)
    · contradiction
theorem tapeC_row {xss : List (List Int)} (h : tapeC xss = 0) (j : Nat) : rowC (xss.getD j []) = 0 := by
  by_cases hj : j < xss.length
  · have h4 := tapeC_four h
    have : rowsC xss = 0 := by unfold tapeC at h; rwa [if_pos h4] at h
    exact rowsC_zero this j hj
  · have : xss.getD j [] = [] := by simp [List.getD_eq_getElem?_getD, List.getElem?_eq_none (Nat.le_of_not_lt hj)]
    rw [this]; rfl
theorem rowC_zero {xs : List Int} (h : rowC xs = 0) : xs.length ≤ 900 ∧ ∀ j, 0 ≤ xs.getD j 0 ∧ xs.getD j 0 ≤ 255 := by
  unfold rowC at h
  split at h
  · cases h
  · split at h
    · refine ⟨by omega, fun j => ?_⟩
      by_cases hj : j < xs.length
      · exact (okB_iff xs).1 ‹_› j hj
      · rw [show xs.getD j 0 = 0 by simp [List.getD_eq_getElem?_getD, List.getElem?_eq_none (Nat.le_of_not_lt hj)]]; omega
    · cases h
theorem impl_isParty_yes (p : Int) (w : World) (h : 0 ≤ p ∧ p ≤ 3) : Calls Tryz.prog 145 #[.int .i64 p] w fun e w' => e = .returned (.bool true) ∧ w = w' := by
  obtain ⟨h1, h2⟩ := h
  have h3 : p < 4 := by omega
  clear h2
  go_enter Tryz.func145, Tryz.ntmps145
  go_wp2
  go_ret
  exact ⟨rfl, rfl⟩
theorem impl_isParty_no (p : Int) (w : World) (h : ¬ (0 ≤ p ∧ p ≤ 3)) : Calls Tryz.prog 145 #[.int .i64 p] w fun e w' => e = .returned (.bool false) ∧ w = w' := by
  by_cases h1 : 0 ≤ p
  · have h3 : ¬ p < 4 := by omega
    clear h
    go_enter Tryz.func145, Tryz.ntmps145
    go_wp2
    go_ret
    exact ⟨rfl, rfl⟩
  · clear h
    go_enter Tryz.func145, Tryz.ntmps145
    go_wp2
    go_ret
    exact ⟨rfl, rfl⟩
theorem spec_l2Party_yes (p : Int) (w : World) (h : 0 ≤ p ∧ p ≤ 3) : Calls Tryz.prog 144 #[.int .i64 p] w fun e w' => e = .returned (.bool true) ∧ w = w' := by
  go_enter Tryz.func144, Tryz.ntmps144
  go_wp2_with fail
  refine (spec_l1In_yes _ _ _ _ h.1 h.2).mono ?_
  rintro e w' ⟨rfl, rfl⟩
  go_wp2
  go_ret
  exact ⟨rfl, rfl⟩
theorem spec_l2Party_no (p : Int) (w : World) (h : ¬ (0 ≤ p ∧ p ≤ 3)) : Calls Tryz.prog 144 #[.int .i64 p] w fun e w' => e = .returned (.bool false) ∧ w = w' := by
  go_enter Tryz.func144, Tryz.ntmps144
  go_wp2_with fail
  refine (spec_l1In_no _ _ _ _ (by omega)).mono ?_
  rintro e w' ⟨rfl, rfl⟩
  go_wp2
  go_ret
  exact ⟨rfl, rfl⟩
set_option maxHeartbeats 1000000 in
theorem impl_wordOf (v : Value) (ys : List Int) (m : Nat) (w : World) (hv : Reads w .i64 v ys) :
    Calls Tryz.prog 160 #[v, .int .i64 m] w fun e w' => e = .returned (.int .i64 (ys.getD m 0)) ∧ w = w' := by
  obtain ⟨q, d, rfl⟩ := hv.shp
  have hml := hv.le
  unfold maxLen at hml
  by_cases hm : m < ys.length
  · obtain ⟨b2, off2, rfl, hlt2, c2⟩ := hv.one m hm
    have hm' : (m : Int) < (ys.length : Int) := by omega
    clear hv hm
    generalize ys.getD m 0 = y at *
    go_enter Tryz.func160, Tryz.ntmps160
    go_wp2
    go_ret
    exact ⟨rfl, rfl⟩
  · have hz : ys.getD m 0 = 0 := by rw [List.getD_eq_getElem?_getD, List.getElem?_eq_none (by omega)]; rfl
    rw [hz]
    clear hz hv
    go_enter Tryz.func160, Tryz.ntmps160
    go_wp2
    go_ret
    exact ⟨rfl, rfl⟩
set_option maxHeartbeats 1000000 in
theorem spec_l2Word_at (b : Nat) (v : Value) (xss : List (List Int)) (l m : Nat) (w : World) (xa : w.cell? ⟨b, 0, none⟩ = some v) (hv : ReadsM w v xss) (hl : l < xss.length) :
    Calls Tryz.prog 126 #[.pointer (some ⟨b, 0, none⟩), .int .i64 l, .int .i64 m] w fun e w' => e = .returned (.int .i64 (word xss l m)) ∧ w = w' := by
  obtain ⟨p, c, rfl⟩ := hv.shp
  have HW : Hid (word xss l m = (xss.getD l []).getD m 0) := rfl
  have hi : (l : Int) < (xss.length : Int) := by omega
  obtain ⟨b1, off, q, d, rfl, hlt, c1, r1⟩ := hv.lane l hl
  clear hv hl
  have hml := r1.le
  unfold maxLen at hml
  by_cases hm : m < (xss.getD l []).length
  · obtain ⟨b2, off2, rfl, hlt2, c2⟩ := r1.one m hm
    have hm' : (m : Int) < ((xss.getD l []).length : Int) := by omega
    clear r1 hm
    generalize (xss.getD l []).getD m 0 = y at *
    generalize xss.getD l [] = ys at *
    go_enter Tryz.func126, Tryz.ntmps126
    go_wp2
    go_ret
    exact ⟨by rw [HW.out]; rfl, rfl⟩
  · have hz : (xss.getD l []).getD m 0 = 0 := by rw [List.getD_eq_getElem?_getD, List.getElem?_eq_none (by omega)]; rfl
    rw [hz] at HW
    clear hz r1
    generalize xss.getD l [] = ys at *
    go_enter Tryz.func126, Tryz.ntmps126
    go_wp2
    go_ret
    exact ⟨by rw [HW.out]; rfl, rfl⟩
theorem spec_l2Word (b : Nat) (v : Value) (xss : List (List Int)) (l m : Nat) (w : World) (hb : Blk w b 37 #[v]) (hv : ReadsM w v xss) (hl : l < xss.length) :
    Calls Tryz.prog 126 #[.pointer (some ⟨b, 0, none⟩), .int .i64 l, .int .i64 m] w fun e w' => e = .returned (.int .i64 (word xss l m)) ∧ w = w' :=
  spec_l2Word_at b v xss l m w (by rw [hb.at.1]; rfl) hv hl
end Go.Proofs.YtepobckhfodngaoGreat
