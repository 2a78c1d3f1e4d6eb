/-
  Draws of chapter 4: a net.
-/
import Derived.Test.YtepobckhfodngabGreatDraw4b
import Derived.Test.YtepobckhfodngabGreatWhole
namespace Go.Proofs.YtepobckhfodngabGreat
open Go.ChangeShapes Go.WideShapes Go.ChangeAt Go.RowKit
set_option linter.unusedVariables false

/-- a net that was drawn: four lanes, four counts, nothing heard, no quarrel -/
def drawnN (xs : List (List Int)) (us : List Int) (ch : MCheat) (sent : Int) : MNet := ⟨xs, us, sent, [[], [], [], []], ch, ⟨false, 0, 0, 0, 0, 0, 0, 0⟩⟩
theorem getD_set_up {us : List Int} {m : Int} (l : Nat) (hl : l < us.length) (h : ∀ j, 0 ≤ us.getD j 0 ∧ us.getD j 0 ≤ m) : ∀ j, 0 ≤ (us.set l (us.getD l 0 + 1)).getD j 0 ∧ (us.set l (us.getD l 0 + 1)).getD j 0 ≤ m + 1 := by
  intro j
  rw [List.getD_eq_getElem?_getD, List.getElem?_set]
  split
  · rename_i e
    subst e
    have := h l
    simp [hl]
    have h2 := this
    rw [List.getD_eq_getElem?_getD, List.getElem?_eq_getElem hl] at h2
    simp at h2
    omega
  · have := h j
    rw [List.getD_eq_getElem?_getD] at this
    omega
theorem sl_le900 : ∀ xs : List (List Int), (∀ j, (xs.getD j []).length ≤ 900) → sl xs ≤ 900 * xs.length
  | [], _ => by simp [sl]
  | x :: r, h => by
    have h0 : x.length ≤ 900 := by simpa using h 0
    have h1 := sl_le900 r (fun j => by simpa using h (j + 1))
    simp only [sl, List.length_cons]
    omega
set_option maxHeartbeats 8000000 in
set_option maxRecDepth 100000 in
theorem spec_l4Draw (b : Nat) (a : Option Addr) (cap : Nat) (zs : List Int) (k : Nat) (w : World) (hs : Src w b a cap zs k) (hk : k ≤ 900000000) :
    Calls Tryz.prog 66 #[.pointer (some ⟨b, 0, none⟩)] w fun e w' => ∃ q0 d0 q1 d1 q2 d2 xs us, ∃ ch : MCheat, ∃ sent b0 b1 b2, e = .returned (.agg #[.slice q0 4 d0, .slice q1 4 d1, .int .i64 sent, .slice q2 4 d2, .int .i64 ch.xWho, .int .i64 ch.xAt, .int .i64 ch.xBy, .bool ch.xCry, .bool false, .int .i64 0, .int .i64 0, .int .i64 0, .int .i64 0, .int .i64 0, .int .i64 0, .int .i64 0]) ∧ Mat w' (.slice q0 4 d0) xs b0 ∧ Ints w' (.slice q1 4 d1) us b1 ∧ Mat w' (.slice q2 4 d2) [[], [], [], []] b2 ∧ Dj b0 b1 ∧ Dj b0 b2 ∧ Dj b1 b2 ∧ TapeD xs ∧ us.length = 4 ∧ (∀ y ∈ b0, w.heap.size < y) ∧ (∀ y ∈ b1, w.heap.size < y) ∧ (∀ y ∈ b2, w.heap.size < y) ∧ (∃ j, j ≤ 16 ∧ Src w' b a cap zs (k + j)) ∧ Off [b] w w' := by
  have hbl := hs.blk.lt
  have Y0 := Blk.new w 33 #[.slice none 0 0, .slice none 0 0, .int .i64 0, .slice none 0 0, .int .i64 0, .int .i64 0, .int .i64 0, .bool false, .bool false, .int .i64 0, .int .i64 0, .int .i64 0, .int .i64 0, .int .i64 0, .int .i64 0, .int .i64 0]
  have nb : w.heap.size ∉ [b] := fun hm => by simp at hm; omega
  have S0 := hs.alloc (.cells #[.slice none 0 0, .slice none 0 0, .int .i64 0, .slice none 0 0, .int .i64 0, .int .i64 0, .int .i64 0, .bool false, .bool false, .int .i64 0, .int .i64 0, .int .i64 0, .int .i64 0, .int .i64 0, .int .i64 0, .int .i64 0] 33)
  have O0 : Off [b] w (w.alloc (.cells #[.slice none 0 0, .slice none 0 0, .int .i64 0, .slice none 0 0, .int .i64 0, .int .i64 0, .int .i64 0, .bool false, .bool false, .int .i64 0, .int .i64 0, .int .i64 0, .int .i64 0, .int .i64 0, .int .i64 0, .int .i64 0] 33)) := (Off.refl _ _).alloc _
  have hz0 : (w.alloc (.cells #[.slice none 0 0, .slice none 0 0, .int .i64 0, .slice none 0 0, .int .i64 0, .int .i64 0, .int .i64 0, .bool false, .bool false, .int .i64 0, .int .i64 0, .int .i64 0, .int .i64 0, .int .i64 0, .int .i64 0, .int .i64 0] 33)).heap.size = w.heap.size + 1 := by simp
  clear hs
  go_enter Tryz.func66, Tryz.ntmps66
  go_wp2_with fail
  refine (spec_l2Draw b a cap zs k _ S0 (by omega)).mono ?_
  rintro e w1 ⟨p, c, xs, bs, rfl, hM1, hD, hf1, s1, o1⟩
  have HD : Hid (TapeD xs) := hD
  have HL : Hid (xs.length = 4) := hD.1
  have Y1 := Y0.off o1 nb
  have O1 := O0.trans o1
  clear hD Y0 S0 O0
  go_wp2_with fail
  refine (spec_l4DrawCheat b a cap zs (k + 2) _ s1 (by omega)).mono ?_
  rintro e w2 ⟨ch, rfl, hCD, s2, o2⟩
  have Y2 := Y1.off o2 nb
  have O2 := O1.trans o2
  rw [hz0] at hf1
  have hM2 := hM1.off o2 (fun y hy hm => by have := hf1 y hy; simp at hm; omega)
  clear Y1 O1 s1 o1 o2 hM1 hCD
  have KN := spec_l4New (.agg #[.slice p 4 c]) xs ch w2 ⟨p, c, by rw [HL.out], by rw [HL.out]; exact hM2.mat.reads⟩ (by have h1 := HD.out.2.1; have h2 := HD.out.1; have := sl_le900 xs h1; rw [tot_eq]; omega)
  go_wp2_with fail
  refine KN.mono ?_
  rintro e w3 ⟨u, b0, b1, b2, rfl, ON, f0, f1, f2, hb3⟩
  obtain ⟨q0, d0, q1, d1, q2, d2, rfl, T3, U3, H3, j01, j02, j12⟩ := ON
  clear KN hM2
  have l2 := Y2.lt
  have Y3 := Y2.keep hb3
  have s3 := s2.keep hb3
  have O3 := O2.trans (Off.ofBelow hb3)
  have z3 := hb3.size
  dsimp only [freshN] at T3 U3 H3 ⊢
  rw [HL.out] at T3 ⊢
  dsimp only [List.length_cons, List.length_nil] at U3 H3 ⊢
  replace f0 : ∀ y ∈ b0, w.heap.size < y := fun y hy => by have := f0 y hy; omega
  replace f1 : ∀ y ∈ b1, w.heap.size < y := fun y hy => by have := f1 y hy; omega
  replace f2 : ∀ y ∈ b2, w.heap.size < y := fun y hy => by have := f2 y hy; omega
  clear hb3 Y2 s2 O2
  have Zn := Blk.new w3 33 #[.slice none 0 0, .slice none 0 0, .int .i64 0, .slice none 0 0, .int .i64 0, .int .i64 0, .int .i64 0, .bool false, .bool false, .int .i64 0, .int .i64 0, .int .i64 0, .int .i64 0, .int .i64 0, .int .i64 0, .int .i64 0]
  have C0 : Hid (w.heap.size < w3.heap.size) := by show _ < _; omega
  go_wp2_with (refine wpList_store_blk rfl 33 _ _ rfl w3.heap.size (#[.slice q0 4 d0, .slice q1 4 d1, .int .i64 0, .slice q2 4 d2, .int .i64 ch.xWho, .int .i64 ch.xAt, .int .i64 ch.xBy, .bool ch.xCry, .bool false, .int .i64 0, .int .i64 0, .int .i64 0, .int .i64 0, .int .i64 0, .int .i64 0, .int .i64 0]) rfl rfl Zn rfl (by kernel_rfl) (by kernel_rfl) ?_; intro w4 Z4 O4)
  have O4' : ∀ y, y < w3.heap.size → y ∉ [w3.heap.size] := fun y hy hm => by simp at hm; omega
  have Y4 := (Y3.alloc (.cells #[.slice none 0 0, .slice none 0 0, .int .i64 0, .slice none 0 0, .int .i64 0, .int .i64 0, .int .i64 0, .bool false, .bool false, .int .i64 0, .int .i64 0, .int .i64 0, .int .i64 0, .int .i64 0, .int .i64 0, .int .i64 0] 33)).off O4 (O4' _ Y3.lt)
  have T4 := (T3.alloc (.cells #[.slice none 0 0, .slice none 0 0, .int .i64 0, .slice none 0 0, .int .i64 0, .int .i64 0, .int .i64 0, .bool false, .bool false, .int .i64 0, .int .i64 0, .int .i64 0, .int .i64 0, .int .i64 0, .int .i64 0, .int .i64 0] 33)).off O4 (fun y hy => O4' y (T3.lt y hy))
  have U4 := (Ints.alloc U3 (.cells #[.slice none 0 0, .slice none 0 0, .int .i64 0, .slice none 0 0, .int .i64 0, .int .i64 0, .int .i64 0, .bool false, .bool false, .int .i64 0, .int .i64 0, .int .i64 0, .int .i64 0, .int .i64 0, .int .i64 0, .int .i64 0] 33)).off O4 (fun y hy => O4' y (U3.lt y hy))
  have H4 := (H3.alloc (.cells #[.slice none 0 0, .slice none 0 0, .int .i64 0, .slice none 0 0, .int .i64 0, .int .i64 0, .int .i64 0, .bool false, .bool false, .int .i64 0, .int .i64 0, .int .i64 0, .int .i64 0, .int .i64 0, .int .i64 0, .int .i64 0] 33)).off O4 (fun y hy => O4' y (H3.lt y hy))
  have s4 := (s3.alloc (.cells #[.slice none 0 0, .slice none 0 0, .int .i64 0, .slice none 0 0, .int .i64 0, .int .i64 0, .int .i64 0, .bool false, .bool false, .int .i64 0, .int .i64 0, .int .i64 0, .int .i64 0, .int .i64 0, .int .i64 0, .int .i64 0] 33)).off O4 (fun y hy => by simp at hy; omega)
  have P4 : Off [b] w w4 := (O3.alloc (.cells #[.slice none 0 0, .slice none 0 0, .int .i64 0, .slice none 0 0, .int .i64 0, .int .i64 0, .int .i64 0, .bool false, .bool false, .int .i64 0, .int .i64 0, .int .i64 0, .int .i64 0, .int .i64 0, .int .i64 0, .int .i64 0] 33)).fresh O4 (fun y hy => by simp at hy; omega)
  have n0 : w3.heap.size ∉ b0 := fun h => Nat.lt_irrefl _ (T3.lt _ h)
  have n1 : w3.heap.size ∉ b1 := fun h => Nat.lt_irrefl _ (U3.lt _ h)
  have n2 : w3.heap.size ∉ b2 := fun h => Nat.lt_irrefl _ (H3.lt _ h)
  have hgw := C0.out
  clear C0 Zn Y3 T3 U3 H3 s3 O3 O4 O4'
  generalize w3.heap.size = g at *
  go_wp2_with fail
  refine (spec_l1Next b a cap zs (k + 2 + 4) 4 _ s4 (by omega) (by omega)).mono ?_
  rintro e w5 ⟨r, rfl, hr, s5, o5⟩
  have hr := hr.1 (by omega)
  obtain ⟨m0, rfl⟩ := Int.eq_ofNat_of_zero_le hr.1
  have Y5 := Y4.off o5 nb
  have Z5 := Z4.off o5 (by simp; omega)
  have T5 := T4.off o5 (fun y hy hm => by have := f0 y hy; simp at hm; omega)
  have U5 := U4.off o5 (fun y hy hm => by have := f1 y hy; simp at hm; omega)
  have H5 := H4.off o5 (fun y hy hm => by have := f2 y hy; simp at hm; omega)
  have P5 := P4.trans o5
  clear Y4 Z4 T4 U4 H4 s4 P4 o5
  go_wp2_with fail
  go_loopw [4] (fun i wr => ∃ m : Nat, ∃ us : List Int, ∃ j : Nat, m ≤ 3 ∧ j ≤ 13 - 2 * m ∧ i = .int .i64 m ∧ us.length = 4 ∧ (∀ j, 0 ≤ us.getD j 0 ∧ us.getD j 0 ≤ 3 - (m : Int)) ∧ Blk wr w.heap.size 33 #[.slice none 0 0, .slice none 0 0, .int .i64 0, .slice none 0 0, .int .i64 0, .int .i64 0, .int .i64 0, .bool false, .bool false, .int .i64 0, .int .i64 0, .int .i64 0, .int .i64 0, .int .i64 0, .int .i64 0, .int .i64 0] ∧ Blk wr g 33 #[.slice q0 4 d0, .slice q1 4 d1, .int .i64 0, .slice q2 4 d2, .int .i64 ch.xWho, .int .i64 ch.xAt, .int .i64 ch.xBy, .bool ch.xCry, .bool false, .int .i64 0, .int .i64 0, .int .i64 0, .int .i64 0, .int .i64 0, .int .i64 0, .int .i64 0] ∧ Mat wr (.slice q0 4 d0) xs b0 ∧ Ints wr (.slice q1 4 d1) us b1 ∧ Mat wr (.slice q2 4 d2) [[], [], [], []] b2 ∧ Src wr b a cap zs (k + j) ∧ Off [b] w wr) (fun i _ => (intOf i).toNat)
  case atStart => exact ⟨m0, [0, 0, 0, 0], 7, by omega, by omega, rfl, rfl, fun j => by (rcases j with _ | _ | _ | _ | j) <;> simp <;> omega, Y5, Z5, T5, U5, H5, s5, P5⟩
  case round =>
    clear Y5 Z5 T5 U5 H5 s5 P5
    obtain ⟨m, us, j, hm, hj, rfl, hul, hub, Y, Z, T6, U6, H6, s6, P6⟩ := hrel
    by_cases hlt : 0 < m
    · have hi : (0 : Int) < (m : Int) := by omega
      go_wp2_with fail
      refine (spec_l1Next b a cap zs (k + j) 4 _ s6 (by omega) (by omega)).mono ?_
      rintro e w7 ⟨r2, rfl, hr2, s7, o7⟩
      have hr2 := hr2.1 (by omega)
      obtain ⟨l, rfl⟩ := Int.eq_ofNat_of_zero_le hr2.1
      have hl4 : l < 4 := by omega
      have Y7 := Y.off o7 nb
      have Z7 := Z.off o7 (by simp; omega)
      have T7 := T6.off o7 (fun y hy hm => by have := f0 y hy; simp at hm; omega)
      have U7 := U6.off o7 (fun y hy hm => by have := f1 y hy; simp at hm; omega)
      have H7 := H6.off o7 (fun y hy hm => by have := f2 y hy; simp at hm; omega)
      have P7 := P6.trans o7
      clear Y Z T6 U6 H6 s6 P6 o7
      have HU : Hid (us.length = 4) := hul
      have KT := spec_l4Take g (drawnN xs us ch 0) q0 q1 q2 d0 d1 d2 b1 l 256 w7 (by show Blk w7 g 33 #[.slice q0 xs.length d0, .slice q1 us.length d1, .int .i64 0, .slice q2 4 d2, .int .i64 ch.xWho, .int .i64 ch.xAt, .int .i64 ch.xBy, .bool ch.xCry, .bool false, .int .i64 0, .int .i64 0, .int .i64 0, .int .i64 0, .int .i64 0, .int .i64 0, .int .i64 0]; rw [HL.out, HU.out]; exact Z7) (by show ReadsM w7 (.slice q0 xs.length d0) xs; rw [HL.out]; exact T7.reads) (by show Ints w7 (.slice q1 us.length d1) us b1; rw [HU.out]; exact U7) (by show l < us.length; omega) (by show l < xs.length; rw [HL.out]; omega) (.inr rfl) (by have := hub l; show 0 ≤ us.getD (l : Int).toNat 0 ∧ us.getD (l : Int).toNat 0 ≤ 900000; rw [Int.toNat_natCast]; omega) (HD.out.2.2 _ _).1 n1
      clear hul
      go_wp2_with fail
      refine KT.mono ?_
      rintro e w8 ⟨rfl, U8, o8⟩
      clear KT
      have hus : (drawnN xs us ch 0).xUsed.set l (used (drawnN xs us ch 0) l + 1) = us.set l (us.getD l 0 + 1) := by show us.set l (us.getD (l : Int).toNat 0 + 1) = _; rw [Int.toNat_natCast]
      rw [hus] at U8
      replace U8 : Ints w8 (.slice q1 4 d1) (us.set l (us.getD l 0 + 1)) b1 := by have h : Ints w8 (.slice q1 us.length d1) _ b1 := U8; rw [HU.out] at h; exact h
      have Y8 := Y7.off o8 (fun hm => by have := f1 _ hm; omega)
      have Z8 := Z7.off o8 n1
      have T8 := T7.off o8 (fun y hy hm => j01 y hy hm)
      have H8 := H7.off o8 (fun y hy hm => j12 y hm hy)
      have s8 := s7.off o8 (fun y hy => by have := f1 y hy; omega)
      have P8 := P7.fresh o8 (fun y hy => Nat.le_of_lt (f1 y hy))
      have hub2 := getD_set_up l (by rw [HU.out]; exact hl4) hub
      clear hub hus Y7 Z7 T7 U7 H7 s7 P7 o8
      go_wp2
      go_roundw
      case rel => exact ⟨m - 1, us.set l (us.getD l 0 + 1), j + 1, by omega, by omega, by congr 1; omega, by rw [List.length_set]; exact HU.out, fun q => by have := hub2 q; omega, Y8, Z8, T8, U8, H8, s8, P8⟩
      case measure => simp [intOf]; omega
    · obtain rfl : m = 0 := by omega
      have za := Z.at.1
      have zl := Z.lt
      have sl := s6.blk.lt
      go_wp2_with fail
      clear za zl
      refine (spec_l1Pick b a cap zs (k + j) _ [0, 0, ch.xAt, 2] [wr.heap.size] _ (s6.alloc _) (by omega) (Ints.lit wr _ _ 4 rfl rfl (by omega)) (by simp) (by simp) (by simp; omega)).mono ?_
      rintro e w7 ⟨sent, rfl, -, s7, o7⟩
      have O7 : Off [b] wr w7 := ((Off.refl _ _).alloc _).trans o7
      have Y7 := Y.off O7 nb
      have Z7 := Z.off O7 (by simp; omega)
      have T7 := T6.off O7 (fun y hy hm => by have := f0 y hy; simp at hm; omega)
      have U7 := U6.off O7 (fun y hy hm => by have := f1 y hy; simp at hm; omega)
      have H7 := H6.off O7 (fun y hy hm => by have := f2 y hy; simp at hm; omega)
      have P7 := P6.trans O7
      clear Y Z T6 U6 H6 s6 P6 O7 o7
      have za := Z7.at.1
      have zb := Z7.at.2
      have zl := Z7.lt
      have O8 : Off [g] w7 (w7.setCell ⟨g, 2, none⟩ (.int .i64 sent)) := (Off.refl _ _).setCell _ _ (by simp)
      have Z8 : Blk (w7.setCell ⟨g, 2, none⟩ (.int .i64 sent)) g 33 #[.slice q0 4 d0, .slice q1 4 d1, .int .i64 sent, .slice q2 4 d2, .int .i64 ch.xWho, .int .i64 ch.xAt, .int .i64 ch.xBy, .bool ch.xCry, .bool false, .int .i64 0, .int .i64 0, .int .i64 0, .int .i64 0, .int .i64 0, .int .i64 0, .int .i64 0] := Blk.of_eq (Z7.set 2 _) (by simp)
      have Y8 := Y7.off O8 (by simp; omega)
      have RR : Hid (∀ W, Off [g, w.heap.size] w7 W → Mat W (.slice q0 4 d0) xs b0 ∧ Ints W (.slice q1 4 d1) us b1 ∧ Mat W (.slice q2 4 d2) [[], [], [], []] b2 ∧ Src W b a cap zs (k + (j + 1)) ∧ Off [b] w W) := fun W O => ⟨T7.off O (fun y hy hm => by have := f0 y hy; simp at hm; rcases hm with h | h; (exact n0 (h ▸ hy)); omega), U7.off O (fun y hy hm => by have := f1 y hy; simp at hm; rcases hm with h | h; (exact n1 (h ▸ hy)); omega), H7.off O (fun y hy hm => by have := f2 y hy; simp at hm; rcases hm with h | h; (exact n2 (h ▸ hy)); omega), s7.off O (fun y hy => by simp at hy; omega), P7.fresh O (fun y hy => by simp at hy; omega)⟩
      clear Z7 Y7 T7 U7 H7 s7 P7
      go_wp2_with (first | (refine wpList_load_blk rfl 33 _ rfl g rfl Z8 Tryz.underlying33 rfl (by kernel_rfl) ?_) | (refine wpList_store_blk rfl 33 _ _ rfl w.heap.size (#[.slice q0 4 d0, .slice q1 4 d1, .int .i64 sent, .slice q2 4 d2, .int .i64 ch.xWho, .int .i64 ch.xAt, .int .i64 ch.xBy, .bool ch.xCry, .bool false, .int .i64 0, .int .i64 0, .int .i64 0, .int .i64 0, .int .i64 0, .int .i64 0, .int .i64 0]) rfl rfl Y8 rfl (by kernel_rfl) (by kernel_rfl) ?_; intro w9 Y9 O9))
      obtain ⟨T9, U9, H9, s9, P9⟩ := RR.out w9 ((O8.mono (by simp)).trans (O9.mono (by simp)))
      exact bodyPost_ret (v := .agg #[.slice q0 4 d0, .slice q1 4 d1, .int .i64 sent, .slice q2 4 d2, .int .i64 ch.xWho, .int .i64 ch.xAt, .int .i64 ch.xBy, .bool ch.xCry, .bool false, .int .i64 0, .int .i64 0, .int .i64 0, .int .i64 0, .int .i64 0, .int .i64 0, .int .i64 0]) (results_blk Tryz.results66 rfl Y9 Tryz.underlying33 rfl (by kernel_rfl)) rfl ⟨q0, d0, q1, d1, q2, d2, xs, us, ch, sent, b0, b1, b2, rfl, T9, U9, H9, j01, j02, j12, HD.out, hul, f0, f1, f2, ⟨j + 1, by omega, s9⟩, P9⟩
end Go.Proofs.YtepobckhfodngabGreat
