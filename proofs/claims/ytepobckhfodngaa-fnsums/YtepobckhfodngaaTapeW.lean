/-
  Contracts of chapter 2: one word of a lane, in the program and in its model.
-/
import Derived.Test.YtepobckhfodngaaTapeI
namespace Go.Proofs.Ytepobckhfodngaa
open Go.ChangeShapes Go.WideShapes Go.ChangeAt Go.RowKit
set_option linter.unusedVariables false

def word (xss : List (List Int)) (lane n : Int) : Int := (xss.getD lane.toNat []).getD n.toNat 0
def wordR (xss : List (List Int)) (lane n : Int) : MIntResult := if tapeC xss = 0 then (if (0 ≤ lane ∧ lane ≤ 3) ∧ 0 ≤ n then ⟨0, word xss lane n⟩ else ⟨3, 0⟩) else ⟨tapeC xss, 0⟩
theorem wordR_fault {xss : List (List Int)} (lane n : Int) (h : tapeC xss ≠ 0) : wordR xss lane n = ⟨tapeC xss, 0⟩ := if_neg h
theorem wordR_out {xss : List (List Int)} {lane n : Int} (h : tapeC xss = 0) (k : ¬ ((0 ≤ lane ∧ lane ≤ 3) ∧ 0 ≤ n)) : wordR xss lane n = ⟨3, 0⟩ := by unfold wordR; rw [if_pos h, if_neg k]
theorem wordR_in {xss : List (List Int)} {lane n : Int} (h : tapeC xss = 0) (k : (0 ≤ lane ∧ lane ≤ 3) ∧ 0 ≤ n) : wordR xss lane n = ⟨0, word xss lane n⟩ := by unfold wordR; rw [if_pos h, if_pos k]
theorem tapeC_four {xss : List (List Int)} (h : tapeC xss = 0) : xss.length = 4 := by
  unfold tapeC at h
  split at h
  · assumption
  · cases h
theorem rowsC_zero : ∀ {xss : List (List Int)}, rowsC xss = 0 → ∀ j, j < xss.length → rowC (xss.getD j []) = 0
  | [], _, j, hj => by simp at hj
  | xs :: r, h, 0, _ => by
    rw [rowsC] at h
    split at h
    · simpa using ‹_›
    · contradiction
  | xs :: r, h, j + 1, hj => by
    rw [rowsC] at h
    split at h
    · simpa using rowsC_zero h j (by simpa using hj)
    · contradiction
theorem tapeC_row {xss : List (List Int)} (h : tapeC xss = 0) (j : Nat) : rowC (xss.getD j []) = 0 := by
  by_cases hj : j < xss.length
  · have h4 := tapeC_four h
    have : rowsC xss = 0 := by unfold tapeC at h; rwa [if_pos h4] at h
    exact rowsC_zero this j hj
  · have : xss.getD j [] = [] := by simp [List.getD_eq_getElem?_getD, List.getElem?_eq_none (Nat.le_of_not_lt hj)]
    rw [this]; rfl
theorem rowC_zero {xs : List Int} (h : rowC xs = 0) : xs.length ≤ 900 ∧ ∀ j, 0 ≤ xs.getD j 0 ∧ xs.getD j 0 ≤ 255 := by
  unfold rowC at h
  split at h
  · cases h
  · split at h
    · refine ⟨by omega, fun j => ?_⟩
      by_cases hj : j < xs.length
      · exact (okB_iff xs).1 ‹_› j hj
      · rw [show xs.getD j 0 = 0 by simp [List.getD_eq_getElem?_getD, List.getElem?_eq_none (Nat.le_of_not_lt hj)]]; omega
    · cases h
theorem impl_isParty_yes (p : Int) (w : World) (h : 0 ≤ p ∧ p ≤ 3) : Calls Try.prog 83 #[.int .i64 p] w fun e w' => e = .returned (.bool true) ∧ w = w' := by
  obtain ⟨h1, h2⟩ := h
  have h3 : p < 4 := by omega
  clear h2
  go_enter Try.func83, Try.ntmps83
  go_wp2
  go_ret
  exact ⟨rfl, rfl⟩
theorem impl_isParty_no (p : Int) (w : World) (h : ¬ (0 ≤ p ∧ p ≤ 3)) : Calls Try.prog 83 #[.int .i64 p] w fun e w' => e = .returned (.bool false) ∧ w = w' := by
  by_cases h1 : 0 ≤ p
  · have h3 : ¬ p < 4 := by omega
    clear h
    go_enter Try.func83, Try.ntmps83
    go_wp2
    go_ret
    exact ⟨rfl, rfl⟩
  · clear h
    go_enter Try.func83, Try.ntmps83
    go_wp2
    go_ret
    exact ⟨rfl, rfl⟩
theorem spec_l2Party_yes (p : Int) (w : World) (h : 0 ≤ p ∧ p ≤ 3) : Calls Try.prog 92 #[.int .i64 p] w fun e w' => e = .returned (.bool true) ∧ w = w' := by
  go_enter Try.func92, Try.ntmps92
  go_wp2_with fail
  refine (spec_l1In_yes _ _ _ _ h.1 h.2).mono ?_
  rintro e w' ⟨rfl, rfl⟩
  go_wp2
  go_ret
  exact ⟨rfl, rfl⟩
theorem spec_l2Party_no (p : Int) (w : World) (h : ¬ (0 ≤ p ∧ p ≤ 3)) : Calls Try.prog 92 #[.int .i64 p] w fun e w' => e = .returned (.bool false) ∧ w = w' := by
  go_enter Try.func92, Try.ntmps92
  go_wp2_with fail
  refine (spec_l1In_no _ _ _ _ (by omega)).mono ?_
  rintro e w' ⟨rfl, rfl⟩
  go_wp2
  go_ret
  exact ⟨rfl, rfl⟩
set_option maxHeartbeats 1000000 in
theorem impl_wordOf (v : Value) (ys : List Int) (m : Nat) (w : World) (hv : Reads w .i64 v ys) :
    Calls Try.prog 90 #[v, .int .i64 m] w fun e w' => e = .returned (.int .i64 (ys.getD m 0)) ∧ w = w' := by
  obtain ⟨q, d, rfl⟩ := hv.shp
  have hml := hv.le
  unfold maxLen at hml
  by_cases hm : m < ys.length
  · obtain ⟨b2, off2, rfl, hlt2, c2⟩ := hv.one m hm
    have hm' : (m : Int) < (ys.length : Int) := by omega
    clear hv hm
    generalize ys.getD m 0 = y at *
    go_enter Try.func90, Try.ntmps90
    go_wp2
    go_ret
    exact ⟨rfl, rfl⟩
  · have hz : ys.getD m 0 = 0 := by rw [List.getD_eq_getElem?_getD, List.getElem?_eq_none (by omega)]; rfl
    rw [hz]
    clear hz hv
    go_enter Try.func90, Try.ntmps90
    go_wp2
    go_ret
    exact ⟨rfl, rfl⟩
set_option maxHeartbeats 1000000 in
theorem impl_WordAt (v : Value) (xss : List (List Int)) (lane n : Int) (w : World) (hv : RdTape w v xss) :
    Calls Try.prog 39 #[v, .int .i64 lane, .int .i64 n] w fun e w' => ∃ u, e = .returned u ∧ RdIntResult w' u (wordR xss lane n) ∧ Below w.heap.size w w' := by
  obtain ⟨p, c, rfl, hv⟩ := hv
  have B0 : Below w.heap.size w ((w.alloc (.cells #[.slice p xss.length c] 42)).alloc (.cells #[.int .i64 0, .int .i64 0] 27)) := (by repeat (first | exact Below.refl _ _ | refine Below.drew ?_ | refine below_drewN ?_ _ | refine Below.setCell ?_ (by first | omega | (simp; done) | (simp; omega)) _ | refine Below.alloc ?_ (by first | omega | (simp; done) | (simp; omega)) _))
  have X0 := (Blk.new w 42 #[.slice p xss.length c]).alloc (.cells #[.int .i64 0, .int .i64 0] 27)
  have Y0 : Blk ((w.alloc (.cells #[.slice p xss.length c] 42)).alloc (.cells #[.int .i64 0, .int .i64 0] 27)) (w.heap.size + 1) 27 #[.int .i64 0, .int .i64 0] := by simpa using Blk.new (w.alloc (.cells #[.slice p xss.length c] 42)) 27 #[.int .i64 0, .int .i64 0]
  have K := fun w h => impl_TapeFault (.slice p xss.length c) xss w h
  by_cases h0 : tapeC xss = 0
  · rw [h0] at K
    have h4 := tapeC_four h0
    by_cases hin : (0 ≤ lane ∧ lane ≤ 3) ∧ 0 ≤ n
    · rw [wordR_in h0 hin]
      obtain ⟨hp, hn⟩ := hin
      obtain ⟨l, rfl⟩ := Int.eq_ofNat_of_zero_le hp.1
      obtain ⟨m, rfl⟩ := Int.eq_ofNat_of_zero_le hn
      have hl : l < xss.length := by omega
      have hlane := fun w (h : ReadsM w (.slice p xss.length c) xss) => h.lane l hl
      have HW : Hid (word xss l m = (xss.getD l []).getD m 0) := rfl
      have hi : (l : Int) < (xss.length : Int) := by omega
      clear h0 h4
      go_enter Try.func39, Try.ntmps39
      go_wp2_with fail
      refine (K _ (hv.below B0)).mono ?_
      rintro e w1 ⟨rfl, hb1⟩
      replace X0 := X0.keep hb1
      replace Y0 := Y0.keep hb1
      replace B0 : Below w.heap.size w w1 := B0.trans (hb1.mono B0.size)
      have xa := X0.at.1
      have ya := Y0.at.1
      have yb := Y0.at.2
      go_wp2_with fail
      refine (impl_isParty_yes _ _ hp).mono ?_
      rintro e w2 ⟨rfl, rfl⟩
      obtain ⟨b, off, q, d, rfl, hlt, c1, r1⟩ := hlane w1 (hv.below B0)
      clear hlane
      have hml := r1.le
      unfold maxLen at hml
      have KW := impl_wordOf _ (xss.getD l []) m w1 r1
      clear r1
      generalize (xss.getD l []).getD m 0 = y at *
      generalize xss.getD l [] = ys at *
      go_wp2_with fail
      refine KW.mono ?_
      rintro e w2 ⟨rfl, rfl⟩
      go_wp2
      exact bodyPost_ret (v := .agg #[.int .i64 0, .int .i64 y]) (by simp [results, Try.results39, go_sem, ya]) rfl ⟨_, rfl, by rw [HW.out]; rfl, (by have zz0 := (B0).size; (try simp at zz0); repeat (first | exact Below.refl _ _ | refine Below.drew ?_ | refine below_drewN ?_ _ | refine Below.setCell ?_ (by first | omega | (simp; done) | (simp; omega)) _ | refine Below.alloc ?_ (by first | omega | (simp; done) | (simp; omega)) _ | refine bcall ?_ B0 (by first | omega | (simp; done) | (simp; omega))))⟩
    · rw [wordR_out h0 hin]
      clear h0 h4
      by_cases hp : 0 ≤ lane ∧ lane ≤ 3
      · have hn : n < 0 := by omega
        clear hin
        go_enter Try.func39, Try.ntmps39
        go_wp2_with fail
        refine (K _ (hv.below B0)).mono ?_
        rintro e w1 ⟨rfl, hb1⟩
        replace X0 := X0.keep hb1
        replace Y0 := Y0.keep hb1
        replace B0 : Below w.heap.size w w1 := B0.trans (hb1.mono B0.size)
        have xa := X0.at.1
        have ya := Y0.at.1
        have yb := Y0.at.2
        go_wp2_with fail
        refine (impl_isParty_yes _ _ hp).mono ?_
        rintro e w2 ⟨rfl, rfl⟩
        go_wp2
        exact bodyPost_ret (v := .agg #[.int .i64 3, .int .i64 0]) (by simp [results, Try.results39, go_sem, ya]) rfl ⟨_, rfl, rfl, (by have zz0 := (B0).size; (try simp at zz0); repeat (first | exact Below.refl _ _ | refine Below.drew ?_ | refine below_drewN ?_ _ | refine Below.setCell ?_ (by first | omega | (simp; done) | (simp; omega)) _ | refine Below.alloc ?_ (by first | omega | (simp; done) | (simp; omega)) _ | refine bcall ?_ B0 (by first | omega | (simp; done) | (simp; omega))))⟩
      · clear hin
        go_enter Try.func39, Try.ntmps39
        go_wp2_with fail
        refine (K _ (hv.below B0)).mono ?_
        rintro e w1 ⟨rfl, hb1⟩
        replace X0 := X0.keep hb1
        replace Y0 := Y0.keep hb1
        replace B0 : Below w.heap.size w w1 := B0.trans (hb1.mono B0.size)
        have xa := X0.at.1
        have ya := Y0.at.1
        have yb := Y0.at.2
        go_wp2_with fail
        refine (impl_isParty_no _ _ hp).mono ?_
        rintro e w2 ⟨rfl, rfl⟩
        go_wp2
        exact bodyPost_ret (v := .agg #[.int .i64 3, .int .i64 0]) (by simp [results, Try.results39, go_sem, ya]) rfl ⟨_, rfl, rfl, (by have zz0 := (B0).size; (try simp at zz0); repeat (first | exact Below.refl _ _ | refine Below.drew ?_ | refine below_drewN ?_ _ | refine Below.setCell ?_ (by first | omega | (simp; done) | (simp; omega)) _ | refine Below.alloc ?_ (by first | omega | (simp; done) | (simp; omega)) _ | refine bcall ?_ B0 (by first | omega | (simp; done) | (simp; omega))))⟩
  · rw [wordR_fault _ _ h0]
    have hne : (tapeC xss == 0) = false := by simpa using h0
    clear h0
    generalize tapeC xss = r at *
    go_enter Try.func39, Try.ntmps39
    go_wp2_with fail
    refine (K _ (hv.below B0)).mono ?_
    rintro e w1 ⟨rfl, hb1⟩
    replace X0 := X0.keep hb1
    replace Y0 := Y0.keep hb1
    replace B0 : Below w.heap.size w w1 := B0.trans (hb1.mono B0.size)
    have xa := X0.at.1
    have ya := Y0.at.1
    have yb := Y0.at.2
    go_wp2
    exact bodyPost_ret (v := .agg #[.int .i64 r, .int .i64 0]) (by simp [results, Try.results39, go_sem, ya]) rfl ⟨_, rfl, rfl, (by have zz0 := (B0).size; (try simp at zz0); repeat (first | exact Below.refl _ _ | refine Below.drew ?_ | refine below_drewN ?_ _ | refine Below.setCell ?_ (by first | omega | (simp; done) | (simp; omega)) _ | refine Below.alloc ?_ (by first | omega | (simp; done) | (simp; omega)) _ | refine bcall ?_ B0 (by first | omega | (simp; done) | (simp; omega))))⟩
set_option maxHeartbeats 1000000 in
theorem spec_l2Word_at (b : Nat) (v : Value) (xss : List (List Int)) (l m : Nat) (w : World) (xa : w.cell? ⟨b, 0, none⟩ = some v) (hv : ReadsM w v xss) (hl : l < xss.length) :
    Calls Try.prog 93 #[.pointer (some ⟨b, 0, none⟩), .int .i64 l, .int .i64 m] w fun e w' => e = .returned (.int .i64 (word xss l m)) ∧ w = w' := by
  obtain ⟨p, c, rfl⟩ := hv.shp
  have HW : Hid (word xss l m = (xss.getD l []).getD m 0) := rfl
  have hi : (l : Int) < (xss.length : Int) := by omega
  obtain ⟨b1, off, q, d, rfl, hlt, c1, r1⟩ := hv.lane l hl
  clear hv hl
  have hml := r1.le
  unfold maxLen at hml
  by_cases hm : m < (xss.getD l []).length
  · obtain ⟨b2, off2, rfl, hlt2, c2⟩ := r1.one m hm
    have hm' : (m : Int) < ((xss.getD l []).length : Int) := by omega
    clear r1 hm
    generalize (xss.getD l []).getD m 0 = y at *
    generalize xss.getD l [] = ys at *
    go_enter Try.func93, Try.ntmps93
    go_wp2
    go_ret
    exact ⟨by rw [HW.out]; rfl, rfl⟩
  · have hz : (xss.getD l []).getD m 0 = 0 := by rw [List.getD_eq_getElem?_getD, List.getElem?_eq_none (by omega)]; rfl
    rw [hz] at HW
    clear hz r1
    generalize xss.getD l [] = ys at *
    go_enter Try.func93, Try.ntmps93
    go_wp2
    go_ret
    exact ⟨by rw [HW.out]; rfl, rfl⟩
theorem spec_l2Word (b : Nat) (v : Value) (xss : List (List Int)) (l m : Nat) (w : World) (hb : Blk w b 42 #[v]) (hv : ReadsM w v xss) (hl : l < xss.length) :
    Calls Try.prog 93 #[.pointer (some ⟨b, 0, none⟩), .int .i64 l, .int .i64 m] w fun e w' => e = .returned (.int .i64 (word xss l m)) ∧ w = w' :=
  spec_l2Word_at b v xss l m w (by rw [hb.at.1]; rfl) hv hl
set_option maxHeartbeats 1000000 in
theorem spec_WordAt (v : Value) (xss : List (List Int)) (lane n : Int) (w : World) (hv : RdTape w v xss) :
    Calls Try.prog 40 #[v, .int .i64 lane, .int .i64 n] w fun e w' => ∃ u, e = .returned u ∧ RdIntResult w' u (wordR xss lane n) ∧ Below w.heap.size w w' := by
  obtain ⟨p, c, rfl, hv⟩ := hv
  have B0 : Below w.heap.size w ((w.alloc (.cells #[.slice p xss.length c] 42)).alloc (.cells #[.int .i64 0, .int .i64 0] 27)) := (by repeat (first | exact Below.refl _ _ | refine Below.drew ?_ | refine below_drewN ?_ _ | refine Below.setCell ?_ (by first | omega | (simp; done) | (simp; omega)) _ | refine Below.alloc ?_ (by first | omega | (simp; done) | (simp; omega)) _))
  have X0 := (Blk.new w 42 #[.slice p xss.length c]).alloc (.cells #[.int .i64 0, .int .i64 0] 27)
  have K := fun b w h1 h2 => spec_l2Fault b (.slice p xss.length c) xss w h1 h2
  by_cases h0 : tapeC xss = 0
  · rw [h0] at K
    have h4 := tapeC_four h0
    by_cases hin : (0 ≤ lane ∧ lane ≤ 3) ∧ 0 ≤ n
    · rw [wordR_in h0 hin]
      obtain ⟨hp, hn⟩ := hin
      obtain ⟨l, rfl⟩ := Int.eq_ofNat_of_zero_le hp.1
      obtain ⟨m, rfl⟩ := Int.eq_ofNat_of_zero_le hn
      have hl : l < xss.length := by omega
      clear h0 h4
      go_enter Try.func40, Try.ntmps40
      go_wp2_with fail
      refine (K _ _ X0 (hv.below B0)).mono ?_
      rintro e w1 ⟨rfl, rfl⟩
      go_wp2_with fail
      refine (spec_l2Party_yes _ _ hp).mono ?_
      rintro e w2 ⟨rfl, rfl⟩
      go_wp2_with fail
      refine (spec_l2Word _ (.slice p xss.length c) xss l m _ X0 (hv.below B0) hl).mono ?_
      rintro e w2 ⟨rfl, rfl⟩
      go_wp2
      exact bodyPost_ret (v := .agg #[.int .i64 0, .int .i64 (word xss l m)]) (by simp [results, Try.results40, go_sem]) rfl ⟨_, rfl, rfl, (by repeat (first | exact Below.refl _ _ | refine Below.drew ?_ | refine below_drewN ?_ _ | refine Below.setCell ?_ (by first | omega | (simp; done) | (simp; omega)) _ | refine Below.alloc ?_ (by first | omega | (simp; done) | (simp; omega)) _))⟩
    · rw [wordR_out h0 hin]
      clear h0 h4
      by_cases hp : 0 ≤ lane ∧ lane ≤ 3
      · have hn : n < 0 := by omega
        clear hin
        go_enter Try.func40, Try.ntmps40
        go_wp2_with fail
        refine (K _ _ X0 (hv.below B0)).mono ?_
        rintro e w1 ⟨rfl, rfl⟩
        go_wp2_with fail
        refine (spec_l2Party_yes _ _ hp).mono ?_
        rintro e w2 ⟨rfl, rfl⟩
        go_wp2
        exact bodyPost_ret (v := .agg #[.int .i64 3, .int .i64 0]) (by simp [results, Try.results40, go_sem]) rfl ⟨_, rfl, rfl, (by repeat (first | exact Below.refl _ _ | refine Below.drew ?_ | refine below_drewN ?_ _ | refine Below.setCell ?_ (by first | omega | (simp; done) | (simp; omega)) _ | refine Below.alloc ?_ (by first | omega | (simp; done) | (simp; omega)) _))⟩
      · clear hin
        go_enter Try.func40, Try.ntmps40
        go_wp2_with fail
        refine (K _ _ X0 (hv.below B0)).mono ?_
        rintro e w1 ⟨rfl, rfl⟩
        go_wp2_with fail
        refine (spec_l2Party_no _ _ hp).mono ?_
        rintro e w2 ⟨rfl, rfl⟩
        go_wp2
        exact bodyPost_ret (v := .agg #[.int .i64 3, .int .i64 0]) (by simp [results, Try.results40, go_sem]) rfl ⟨_, rfl, rfl, (by repeat (first | exact Below.refl _ _ | refine Below.drew ?_ | refine below_drewN ?_ _ | refine Below.setCell ?_ (by first | omega | (simp; done) | (simp; omega)) _ | refine Below.alloc ?_ (by first | omega | (simp; done) | (simp; omega)) _))⟩
  · rw [wordR_fault _ _ h0]
    have hne : (tapeC xss == 0) = false := by simpa using h0
    clear h0
    generalize tapeC xss = r at *
    go_enter Try.func40, Try.ntmps40
    go_wp2_with fail
    refine (K _ _ X0 (hv.below B0)).mono ?_
    rintro e w1 ⟨rfl, rfl⟩
    go_wp2
    exact bodyPost_ret (v := .agg #[.int .i64 r, .int .i64 0]) (by simp [results, Try.results40, go_sem]) rfl ⟨_, rfl, rfl, (by repeat (first | exact Below.refl _ _ | refine Below.drew ?_ | refine below_drewN ?_ _ | refine Below.setCell ?_ (by first | omega | (simp; done) | (simp; omega)) _ | refine Below.alloc ?_ (by first | omega | (simp; done) | (simp; omega)) _))⟩
end Go.Proofs.Ytepobckhfodngaa
