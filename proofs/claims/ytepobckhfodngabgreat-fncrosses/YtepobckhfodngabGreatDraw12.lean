/-
  Draws of chapter 5: two parties, what is crossed, single products.
-/
import Derived.Test.YtepobckhfodngabGreatDraw11
import Derived.Test.YtepobckhfodngabGreatDraw3
import Derived.Test.YtepobckhfodngabGreatDraw9
namespace Go.Proofs.YtepobckhfodngabGreat
open Go.ChangeShapes Go.WideShapes Go.ChangeAt Go.RowKit
set_option linter.unusedVariables false

set_option maxHeartbeats 2000000 in
theorem spec_DrawOthersOf (a : Option Addr) (cap : Nat) (zs : List Int) (w : World) (hr : Reads w .u8 (.slice a zs.length cap) zs) (hl : zs.length ≤ 1048576) (hb : ∀ i, 0 ≤ zs.getD i 0 ∧ zs.getD i 0 ≤ 255) :
    Calls Tryz.prog 17 #[.slice a zs.length cap] w fun e w' => ∃ i j : Int, e = .returned (.tuple #[.int .i64 i, .int .i64 j]) ∧ Below w.heap.size w w' := by
  go_enter Tryz.func17, Tryz.ntmps17
  go_wp2_with fail
  refine (spec_l1Source a cap zs w hr hl hb).mono ?_
  rintro e w1 ⟨rfl, s1, hb1⟩
  have z1 := s1.blk.lt
  have hz1 := hb1.size
  go_wp2_with fail
  refine (spec_l1Pick w.heap.size a cap zs _ _ [0, 1, 2, 3, 4] [w1.heap.size] _ (s1.alloc _) (by omega) (Ints.lit w1 _ _ 5 rfl rfl (by omega)) (by simp) (by simp) (by simp; omega)).mono ?_
  rintro e w2 ⟨r2, rfl, -, s2, o2⟩
  have b2 := hb1.trans ((((Off.refl _ _).alloc _).trans o2).toBelow hb1.size (by simp))
  have z2 := s2.blk.lt
  clear s1 hb1 o2
  go_wp2_with fail
  refine (spec_l1Pick w.heap.size a cap zs _ _ [0, 1, 2, 3, -1] [w2.heap.size] _ (s2.alloc _) (by omega) (Ints.lit w2 _ _ 5 rfl rfl (by omega)) (by simp) (by simp) (by simp; omega)).mono ?_
  rintro e w3 ⟨r3, rfl, -, s3, o3⟩
  have b3 := b2.trans ((((Off.refl _ _).alloc _).trans o3).toBelow b2.size (by simp))
  clear s2 b2 o3 s3
  go_wp2
  go_ret2
  exact ⟨_, _, rfl, b3⟩
theorem reads_dropE {w : World} {te : TypeId} {g c : Nat} {xs : List Int} (h : Own w te 1 (.slice (some ⟨g, 0, none⟩) 4 c) 4 (xs.map (Value.int .i64)) [g]) (h4 : xs.length = 4) : Reads w .i64 (.slice (some ⟨g, 1, none⟩) 3 (c - 1)) (xs.drop 1) := by
  refine ⟨_, c - 1, by simp [h4], by simp [maxLen, h4], fun _ => ⟨g, 1, rfl, Own.lt h g (by simp), fun i hi => ?_⟩⟩
  have hi' : i + 1 < xs.length := by simp at hi; omega
  rw [Own.cell h (1 + i) (by omega), Nat.add_comm 1 i]
  simp [hi']
theorem reads_off {w w' : World} {g oo n c : Nat} {xs : List Int} {cs : List Nat} (h : Reads w .i64 (.slice (some ⟨g, oo, none⟩) n c) xs) (o : Off cs w w') (hg : g ∉ cs) : Reads w' .i64 (.slice (some ⟨g, oo, none⟩) n c) xs := by
  obtain ⟨a, cap, e, hm, hA⟩ := h
  simp only [Value.slice.injEq] at e
  obtain ⟨rfl, rfl, rfl⟩ := e
  refine ⟨_, _, rfl, hm, fun hx => ?_⟩
  obtain ⟨b, off, e, hlt, hc⟩ := hA hx
  simp only [Option.some.injEq, Addr.mk.injEq] at e
  obtain ⟨rfl, rfl, -⟩ := e
  refine ⟨_, _, rfl, Nat.lt_of_lt_of_le hlt o.size, fun i hi => ?_⟩
  rw [← hc i hi]
  exact (o.at g hlt hg).1 _
theorem Off.trans' {us vs : List Nat} {a b c : World} (h : Off us a b) (k : Off vs b c) : Off (us ++ vs) a c := (h.mono (fun y hy => List.mem_append_left _ hy)).trans (k.mono (fun y hy => List.mem_append_right _ hy))
set_option maxHeartbeats 4000000 in
set_option maxRecDepth 100000 in
theorem spec_DrawCrossOf (a : Option Addr) (cap : Nat) (zs : List Int) (w : World) (hr : Reads w .u8 (.slice a zs.length cap) zs) (hl : zs.length ≤ 1048576) (hb : ∀ i, 0 ≤ zs.getD i 0 ∧ zs.getD i 0 ≤ 255) :
    Calls Tryz.prog 15 #[.slice a zs.length cap] w fun e w' => ∃ (q : Int) (p : Option Addr) (n c : Nat) (xs : List Int) (p' : Option Addr) (n' c' : Nat) (ys : List Int) (i j : Int), e = .returned (.tuple #[.int .i64 q, .slice p n c, .slice p' n' c', .int .i64 i, .int .i64 j]) ∧ Reads w' .i64 (.slice p n c) xs ∧ Reads w' .i64 (.slice p' n' c') ys ∧ Below w.heap.size w w' := by
  go_enter Tryz.func15, Tryz.ntmps15
  go_wp2_with fail
  refine (spec_l1Source a cap zs w hr hl hb).mono ?_
  rintro e w1 ⟨rfl, s1, hb1⟩
  go_wp2_with fail
  refine (spec_l3Q w.heap.size a cap zs _ _ s1 (by omega)).mono ?_
  rintro e w2 ⟨q, rfl, hq, s2, o2⟩
  have HQ : Hid (isQ q) := hq
  have z2 := s2.blk.lt
  clear hq
  go_wp2_with fail
  refine (spec_l3Parts w.heap.size a cap zs _ q _ s2 (by omega) (by rcases HQ.out with h | h <;> omega)).mono ?_
  rintro e w3 ⟨v, xs, bs, rfl, i3, hl4, hf3, s3, o3⟩
  obtain ⟨g, c, rfl, rfl, hc1, hc2⟩ := Own.shape i3 (by rw [hl4]; omega)
  unfold IntsT at i3
  have HL : Hid (xs.length = 4) := hl4
  rw [hl4] at i3 hc1 ⊢
  clear hl4
  have hg : w2.heap.size ≤ g := hf3 g (by simp)
  have hg' := Own.lt i3 g (by simp)
  have z3 := s3.blk.lt
  go_wp2_with fail
  refine (spec_l3Parts w.heap.size a cap zs _ q _ s3 (by omega) (by rcases HQ.out with h | h <;> omega)).mono ?_
  rintro e w4 ⟨v', ys, bs', rfl, i4, hl4', hf4, s4, o4⟩
  obtain ⟨g', c', rfl, rfl, hc1', hc2'⟩ := Own.shape i4 (by rw [hl4']; omega)
  unfold IntsT at i4
  have HL' : Hid (ys.length = 4) := hl4'
  rw [hl4'] at i4 hc1' ⊢
  clear hl4'
  have gg : w3.heap.size ≤ g' := hf4 g' (by simp)
  have gg' := Own.lt i4 g' (by simp)
  have x4 := Own.off i3 o4 (by simp; omega)
  have z4 := s4.blk.lt
  go_wp2_with fail
  refine (spec_l1Next w.heap.size a cap zs _ _ _ s4 (by omega) (by omega)).mono ?_
  rintro e w5 ⟨r5, rfl, hr5, s5, o5⟩
  have x5 := Own.off x4 o5 (by simp; omega)
  have y5 := Own.off i4 o5 (by simp; omega)
  have q5 : Below w.heap.size w w5 := hb1.trans ((o2.trans (o3.trans (o4.trans o5))).toBelow hb1.size (by simp))
  have zz5 := o5.size
  have hb1z := hb1.size
  clear i3 i4 x4 s1 s2 s3 s4 o2 o3 o4 o5 hb1 hr5
  by_cases h0 : r5 = 0
  · have e0 : (r5 == 0) = true := by simpa using h0
    have RX : Reads w5 .i64 (.slice (some ⟨g, 1, none⟩) 3 (c - 1)) (xs.drop 1) := reads_dropE x5 HL.out
    have RY : Reads w5 .i64 (.slice (some ⟨g', 0, none⟩) 4 c') ys := Own.reads (by rw [HL'.out]; exact y5)
    have W5 : ∀ z, z ∈ [g] ∨ z ∈ [g'] → z < w5.heap.size ∧ z ≠ w.heap.size := fun z hz => by simp at hz; omega
    clear h0
    obtain ⟨bw, hbw⟩ : ∃ n, n = w.heap.size := ⟨_, rfl⟩
    go_wp2_with fail
    refine (spec_l1Pick w.heap.size a cap zs _ _ [0, 1, 2, 3, 4] [w5.heap.size] _ (s5.alloc _) (by omega) (Ints.lit w5 _ _ 5 rfl rfl (by omega)) (by simp) (by simp) (by simp; omega)).mono ?_
    rintro e w8 ⟨r8, rfl, -, s8, o8⟩
    have O8 : Off [w.heap.size] w5 w8 := ((Off.refl _ _).alloc _).trans o8
    have l8 := s8.blk.lt
    go_wp2_with fail
    refine (spec_l1Pick w.heap.size a cap zs _ _ [0, 1, 2, 3] [w8.heap.size] _ (s8.alloc _) (by omega) (Ints.lit w8 _ _ 4 rfl rfl (by omega)) (by simp) (by simp) (by simp; omega)).mono ?_
    rintro e w9 ⟨r9, rfl, -, s9, o9⟩
    have O9 : Off [w.heap.size] w5 w9 := O8.trans (((Off.refl _ _).alloc _).trans o9)
    have q9 := q5.trans (O9.toBelow q5.size (by simp))
    have RX9 := reads_off RX O9 (by simp; omega)
    have RY9 := reads_off RY O9 (by simp; omega)
    clear O8 O9 o8 o9 s8 s9 RX RY
    go_wp2
    exact bodyPost_ret (v := .tuple #[.int .i64 q, .slice (some ⟨g, 1, none⟩) 3 (c - 1), .slice (some ⟨g', 0, none⟩) 4 c', .int .i64 r8, .int .i64 r9]) (by simp [results, Tryz.results15, go_sem]) rfl ⟨_, _, _, _, _, _, _, _, _, _, _, rfl, RX9, RY9, q9⟩
  · have e0 : (r5 == 0) = false := by simpa using h0
    by_cases h1 : r5 = 1
    · have e1 : (r5 == 1) = true := by simpa using h1
      have c1 : ∃ u, w5.cell? ⟨g', 2, none⟩ = some u := ⟨_, (Own.cell y5 2 (by omega)).trans (List.getElem?_eq_getElem (by simp [HL'.out]))⟩
      obtain ⟨u, c1⟩ := c1
      have f1 : w5.frozen? ⟨g', 2, none⟩ = false := Own.frozen y5 2
      have i7 := Own.set y5 2 (.int .i64 256)
      rw [← List.map_set] at i7
      have OO : Off [g'] w5 (w5.setCell ⟨g', 2, none⟩ (.int .i64 256)) := (Off.refl _ _).setCell _ _ (by simp)
      have RY := Own.reads (xs := ys.set 2 256) (by rw [List.length_set, HL'.out]; exact i7)
      have x7 := Own.off x5 OO (by simp; omega)
      have RX := Own.reads (xs := xs) (by rw [HL.out]; exact x7)
      have s7 := s5.off OO (fun y hy => by simp at hy; omega)
      have q7 := q5.trans (OO.toBelow q5.size (fun y hy => by simp at hy; omega))
      have W7 : ∀ z, z ∈ [g] ∨ z ∈ [g'] → z < (w5.setCell ⟨g', 2, none⟩ (.int .i64 256)).heap.size ∧ z ≠ w.heap.size := fun z hz => by simp at hz ⊢; omega
      clear h0 h1 x5 y5 i7 x7 OO s5 q5
      have HH := (show Hid (_ ∧ _ ∧ _ ∧ _ ∧ _) from ⟨RX, RY, s7, q7, W7⟩)
      clear RX RY s7 q7 W7
      have hz7 : (w5.setCell ⟨g', 2, none⟩ (.int .i64 256)).heap.size = w5.heap.size := by simp
      go_wp2_with fail
      generalize w5.setCell ⟨g', 2, none⟩ (.int .i64 256) = w7 at *
      obtain ⟨RX, RY, s7, q7, W7⟩ := HH.out
      clear HH c1 f1
      rw [← hz7]
      obtain ⟨bw, hbw⟩ : ∃ n, n = w.heap.size := ⟨_, rfl⟩
      refine (spec_l1Pick w.heap.size a cap zs _ _ [0, 1, 2, 3, 4] [w7.heap.size] _ (s7.alloc _) (by omega) (Ints.lit w7 _ _ 5 rfl rfl (by omega)) (by simp) (by simp) (by simp; omega)).mono ?_
      rintro e w8 ⟨r8, rfl, -, s8, o8⟩
      have O8 : Off [w.heap.size] w7 w8 := ((Off.refl _ _).alloc _).trans o8
      have l8 := s8.blk.lt
      go_wp2_with fail
      refine (spec_l1Pick w.heap.size a cap zs _ _ [0, 1, 2, 3] [w8.heap.size] _ (s8.alloc _) (by omega) (Ints.lit w8 _ _ 4 rfl rfl (by omega)) (by simp) (by simp) (by simp; omega)).mono ?_
      rintro e w9 ⟨r9, rfl, -, s9, o9⟩
      have O9 : Off [w.heap.size] w7 w9 := O8.trans (((Off.refl _ _).alloc _).trans o9)
      have q9 := q7.trans (O9.toBelow q7.size (by simp))
      have RX9 := reads_off RX O9 (by simp; omega)
      have RY9 := reads_off RY O9 (by simp; omega)
      clear O8 O9 o8 o9 s8 s9 RX RY
      go_wp2
      exact bodyPost_ret (v := .tuple #[.int .i64 q, .slice (some ⟨g, 0, none⟩) 4 c, .slice (some ⟨g', 0, none⟩) 4 c', .int .i64 r8, .int .i64 r9]) (by simp [results, Tryz.results15, go_sem]) rfl ⟨_, _, _, _, _, _, _, _, _, _, _, rfl, RX9, RY9, q9⟩
    · have e1 : (r5 == 1) = false := by simpa using h1
      have RX : Reads w5 .i64 (.slice (some ⟨g, 0, none⟩) 4 c) xs := Own.reads (xs := xs) (by rw [HL.out]; exact x5)
      have RY : Reads w5 .i64 (.slice (some ⟨g', 0, none⟩) 4 c') ys := Own.reads (xs := ys) (by rw [HL'.out]; exact y5)
      clear h0 h1 x5 y5
      obtain ⟨bw, hbw⟩ : ∃ n, n = w.heap.size := ⟨_, rfl⟩
      go_wp2_with fail
      refine (spec_l1Pick w.heap.size a cap zs _ _ [0, 1, 2, 3, 4] [w5.heap.size] _ (s5.alloc _) (by omega) (Ints.lit w5 _ _ 5 rfl rfl (by omega)) (by simp) (by simp) (by simp; omega)).mono ?_
      rintro e w8 ⟨r8, rfl, -, s8, o8⟩
      have O8 : Off [w.heap.size] w5 w8 := ((Off.refl _ _).alloc _).trans o8
      have l8 := s8.blk.lt
      go_wp2_with fail
      refine (spec_l1Pick w.heap.size a cap zs _ _ [0, 1, 2, 3] [w8.heap.size] _ (s8.alloc _) (by omega) (Ints.lit w8 _ _ 4 rfl rfl (by omega)) (by simp) (by simp) (by simp; omega)).mono ?_
      rintro e w9 ⟨r9, rfl, -, s9, o9⟩
      have O9 : Off [w.heap.size] w5 w9 := O8.trans (((Off.refl _ _).alloc _).trans o9)
      have q9 := q5.trans (O9.toBelow q5.size (by simp))
      have RX9 := reads_off RX O9 (by simp; omega)
      have RY9 := reads_off RY O9 (by simp; omega)
      clear O8 O9 o8 o9 s8 s9 RX RY
      go_wp2
      exact bodyPost_ret (v := .tuple #[.int .i64 q, .slice (some ⟨g, 0, none⟩) 4 c, .slice (some ⟨g', 0, none⟩) 4 c', .int .i64 r8, .int .i64 r9]) (by simp [results, Tryz.results15, go_sem]) rfl ⟨_, _, _, _, _, _, _, _, _, _, _, rfl, RX9, RY9, q9⟩
set_option maxHeartbeats 8000000 in
set_option maxRecDepth 100000 in
theorem spec_DrawMultMirrors (a : Option Addr) (cap : Nat) (zs : List Int) (w : World) (hr : Reads w .u8 (.slice a zs.length cap) zs) (hl : zs.length ≤ 1048576) (hb : ∀ i, 0 ≤ zs.getD i 0 ∧ zs.getD i 0 ≤ 255) :
    Calls Tryz.prog 20 #[.slice a zs.length cap] w fun e w' => ∃ (u : Value) (x : MNet) (v v' : Value) (A B : MMirror), e = .returned (.tuple #[u, v, v']) ∧ RdNet w' u x ∧ Fit x ∧ RdMirror w' v A ∧ RdMirror w' v' B ∧ Below w.heap.size w w' := by
  have Y0 : Blk (((w.alloc (.cells #[.slice none 0 0, .slice none 0 0, .int .i64 0, .slice none 0 0, .int .i64 0, .int .i64 0, .int .i64 0, .bool false, .bool false, .int .i64 0, .int .i64 0, .int .i64 0, .int .i64 0, .int .i64 0, .int .i64 0, .int .i64 0] 33)).alloc (.cells #[.int .i64 0, .slice none 0 0] 38)).alloc (.cells #[.int .i64 0, .slice none 0 0] 38)) w.heap.size 33 #[.slice none 0 0, .slice none 0 0, .int .i64 0, .slice none 0 0, .int .i64 0, .int .i64 0, .int .i64 0, .bool false, .bool false, .int .i64 0, .int .i64 0, .int .i64 0, .int .i64 0, .int .i64 0, .int .i64 0, .int .i64 0] := ((Blk.new w _ _).alloc _).alloc _
  have U0 : Blk (((w.alloc (.cells #[.slice none 0 0, .slice none 0 0, .int .i64 0, .slice none 0 0, .int .i64 0, .int .i64 0, .int .i64 0, .bool false, .bool false, .int .i64 0, .int .i64 0, .int .i64 0, .int .i64 0, .int .i64 0, .int .i64 0, .int .i64 0] 33)).alloc (.cells #[.int .i64 0, .slice none 0 0] 38)).alloc (.cells #[.int .i64 0, .slice none 0 0] 38)) (w.heap.size + 1) 38 #[.int .i64 0, .slice none 0 0] := by simpa using (Blk.new (w.alloc (.cells #[.slice none 0 0, .slice none 0 0, .int .i64 0, .slice none 0 0, .int .i64 0, .int .i64 0, .int .i64 0, .bool false, .bool false, .int .i64 0, .int .i64 0, .int .i64 0, .int .i64 0, .int .i64 0, .int .i64 0, .int .i64 0] 33)) 38 #[.int .i64 0, .slice none 0 0]).alloc (.cells #[.int .i64 0, .slice none 0 0] 38)
  have V0 : Blk (((w.alloc (.cells #[.slice none 0 0, .slice none 0 0, .int .i64 0, .slice none 0 0, .int .i64 0, .int .i64 0, .int .i64 0, .bool false, .bool false, .int .i64 0, .int .i64 0, .int .i64 0, .int .i64 0, .int .i64 0, .int .i64 0, .int .i64 0] 33)).alloc (.cells #[.int .i64 0, .slice none 0 0] 38)).alloc (.cells #[.int .i64 0, .slice none 0 0] 38)) (w.heap.size + 2) 38 #[.int .i64 0, .slice none 0 0] := by simpa using Blk.new ((w.alloc (.cells #[.slice none 0 0, .slice none 0 0, .int .i64 0, .slice none 0 0, .int .i64 0, .int .i64 0, .int .i64 0, .bool false, .bool false, .int .i64 0, .int .i64 0, .int .i64 0, .int .i64 0, .int .i64 0, .int .i64 0, .int .i64 0] 33)).alloc (.cells #[.int .i64 0, .slice none 0 0] 38)) 38 #[.int .i64 0, .slice none 0 0]
  have B0 : Below w.heap.size w (((w.alloc (.cells #[.slice none 0 0, .slice none 0 0, .int .i64 0, .slice none 0 0, .int .i64 0, .int .i64 0, .int .i64 0, .bool false, .bool false, .int .i64 0, .int .i64 0, .int .i64 0, .int .i64 0, .int .i64 0, .int .i64 0, .int .i64 0] 33)).alloc (.cells #[.int .i64 0, .slice none 0 0] 38)).alloc (.cells #[.int .i64 0, .slice none 0 0] 38)) := (by repeat (first | exact Below.refl _ _ | refine Below.drew ?_ | refine below_drewN ?_ _ | refine Below.setCell ?_ (by first | omega | (simp; done) | (simp; omega)) _ | refine Below.alloc ?_ (by first | omega | (simp; done) | (simp; omega)) _))
  have hr0 := hr.below B0
  clear hr
  go_enter Tryz.func20, Tryz.ntmps20
  go_wp2_with fail
  refine (spec_DrawDotMirrors a cap zs _ hr0 hl hb).mono ?_
  rintro e w1 ⟨u, x, v, v', xs, ys, rfl, rN, hF, rX, rY, DD, b1⟩
  have hz0 : (((w.alloc (.cells #[.slice none 0 0, .slice none 0 0, .int .i64 0, .slice none 0 0, .int .i64 0, .int .i64 0, .int .i64 0, .bool false, .bool false, .int .i64 0, .int .i64 0, .int .i64 0, .int .i64 0, .int .i64 0, .int .i64 0, .int .i64 0] 33)).alloc (.cells #[.int .i64 0, .slice none 0 0] 38)).alloc (.cells #[.int .i64 0, .slice none 0 0] 38)).heap.size = w.heap.size + 3 := by simp
  rw [hz0] at rN rX rY
  have HF : Hid (Fit x) := hF
  have Y1 := Y0.keep b1
  have U1 := U0.keep b1
  have V1 := V0.keep b1
  have B1 := B0.trans (b1.mono B0.size)
  have z1 := b1.size
  rw [hz0] at z1
  have hr1 := hr0.below b1
  obtain ⟨nx, hnx⟩ : ∃ n, xs.length = n := ⟨_, rfl⟩
  have hnx0 : (0 : Int) < (nx : Int) := by have := DD.h0; omega
  have hnx0n : 0 < nx := by omega
  obtain ⟨ax, capx, rfl, hmx, hAx⟩ := rX.rd
  obtain ⟨gx, ox, rfl, hltx, hcx⟩ := hAx (by intro h; have := DD.h0; rw [h] at this; simp at this)
  have hgx : w.heap.size + 3 ≤ gx := StS.ge rX DD.h0
  obtain ⟨pX, cX, k0, k1, -⟩ := hcx 0 DD.h0
  simp only [Nat.zero_mul, Nat.add_zero] at k0 k1
  have HRA : Hid (∀ V cs, Off cs w1 V → (∀ z ∈ cs, z < w.heap.size + 3) → RdMirror V (.agg #[.int .i64 (xs.getD 0 zM).xQ, .slice pX (xs.getD 0 zM).xViews.length cX]) (xs.getD 0 zM)) := fun V cs o hc => by
    obtain ⟨a2, cap2, e2, -, hA2⟩ := rX V cs o hc
    simp only [Value.slice.injEq] at e2
    obtain ⟨rfl, -, -⟩ := e2
    obtain ⟨b2, off2, e2, -, hc2⟩ := hA2 (by intro h; have := DD.h0; rw [h] at this; simp at this)
    simp only [Option.some.injEq, Addr.mk.injEq] at e2
    obtain ⟨rfl, rfl, -⟩ := e2
    obtain ⟨p3, c3, -, j1, j2⟩ := hc2 0 DD.h0
    simp only [Nat.zero_mul, Nat.add_zero] at j1
    have := ((o.at gx hltx (fun hm => by have := hc gx hm; omega)).1 (ox + 1)).trans k1
    rw [j1] at this
    simp only [Option.some.injEq, Value.slice.injEq, true_and] at this
    obtain ⟨rfl, rfl⟩ := this
    exact ⟨_, _, rfl, j2⟩
  obtain ⟨pY, cY, rfl⟩ := rY.rd.shp
  rw [hnx]
  clear hAx hcx hF Y0 U0 V0 B0 hr0 b1 rY hnx DD rX hz0
  generalize xs.getD 0 zM = A at *
  obtain ⟨p0, c0, p1, c1, p2, c2, rfl, -⟩ := rN w1 [] (Off.refl _ _) (fun z hz => by cases hz)
  have HRN : Hid (∀ V cs, Off cs w1 V → (∀ z ∈ cs, z < w.heap.size + 3) → RdNet V (.agg (#[.slice p0 x.xTape.length c0, .slice p1 x.xUsed.length c1, .int .i64 x.xSent, .slice p2 x.xHeard.length c2, .int .i64 x.xCheat.xWho, .int .i64 x.xCheat.xAt, .int .i64 x.xCheat.xBy, .bool x.xCheat.xCry, .bool x.xQuarrel.xSome, .int .i64 x.xQuarrel.xFrom, .int .i64 x.xQuarrel.xCheck, .int .i64 x.xQuarrel.xTo, .int .i64 x.xQuarrel.xTold, .int .i64 x.xQuarrel.xHeard, .int .i64 x.xQuarrel.xOther, .int .i64 x.xQuarrel.xVowed])) x) := rN
  clear rN
  have Zn := Blk.new w1 33 #[.slice none 0 0, .slice none 0 0, .int .i64 0, .slice none 0 0, .int .i64 0, .int .i64 0, .int .i64 0, .bool false, .bool false, .int .i64 0, .int .i64 0, .int .i64 0, .int .i64 0, .int .i64 0, .int .i64 0, .int .i64 0]
  go_wp2_with (refine wpList_store_blk rfl 33 _ _ rfl w1.heap.size (#[.slice p0 x.xTape.length c0, .slice p1 x.xUsed.length c1, .int .i64 x.xSent, .slice p2 x.xHeard.length c2, .int .i64 x.xCheat.xWho, .int .i64 x.xCheat.xAt, .int .i64 x.xCheat.xBy, .bool x.xCheat.xCry, .bool x.xQuarrel.xSome, .int .i64 x.xQuarrel.xFrom, .int .i64 x.xQuarrel.xCheck, .int .i64 x.xQuarrel.xTo, .int .i64 x.xQuarrel.xTold, .int .i64 x.xQuarrel.xHeard, .int .i64 x.xQuarrel.xOther, .int .i64 x.xQuarrel.xVowed]) rfl rfl Zn rfl (by kernel_rfl) (by kernel_rfl) ?_; intro w3 Z3 O3)
  have b3 : Below w1.heap.size w1 w3 := (((Off.refl [w1.heap.size] w1).alloc _).trans O3).toBelow (Nat.le_refl _) (by simp)
  have hr3 := hr1.below b3
  have z3 := b3.size
  have z3' := Z3.lt
  clear hr1 O3 Zn
  have Y3 := Y1.keep b3
  generalize hg : w1.heap.size = g at *
  go_wp2_with fail
  refine (spec_l1Later a cap zs 3 _ hr3 hl hb (by omega)).mono ?_
  rintro e w4 ⟨rfl, s4, b4⟩
  have z4 := b4.size
  have sd : Src w4.drew w3.heap.size a cap zs (5 + 7 * 3) := s4.keep (Below.refl _ _).drew
  have lb := sd.blk.lt
  have Qd : Below w3.heap.size w3 w4.drew := b4.drew
  have HC : Hid (∀ V, Below w3.heap.size w3 V → (∀ o, V.cell? ⟨g, o, none⟩ = (#[.slice p0 x.xTape.length c0, .slice p1 x.xUsed.length c1, .int .i64 x.xSent, .slice p2 x.xHeard.length c2, .int .i64 x.xCheat.xWho, .int .i64 x.xCheat.xAt, .int .i64 x.xCheat.xBy, .bool x.xCheat.xCry, .bool x.xQuarrel.xSome, .int .i64 x.xQuarrel.xFrom, .int .i64 x.xQuarrel.xCheck, .int .i64 x.xQuarrel.xTo, .int .i64 x.xQuarrel.xTold, .int .i64 x.xQuarrel.xHeard, .int .i64 x.xQuarrel.xOther, .int .i64 x.xQuarrel.xVowed] : Array Value)[o]?) ∧ V.cell? ⟨gx, ox, none⟩ = some (.int .i64 A.xQ) ∧ V.cell? ⟨gx, ox + 1, none⟩ = some (.slice pX A.xViews.length cX)) := fun V q => ⟨(Z3.keep q).at.1, ((b3.trans (q.mono z3)).cell (p := ⟨gx, ox, none⟩) (by show gx < g; omega)).trans k0, ((b3.trans (q.mono z3)).cell (p := ⟨gx, ox + 1, none⟩) (by show gx < g; omega)).trans k1⟩
  clear hr3 b4 s4 k0 k1 Y3
  have hgb : g < w3.heap.size ∧ gx < g ∧ w.heap.size + 2 < gx := by omega
  go_wp2_with fail
  refine wp_region_held (S := fun V => (∀ o, V.cell? ⟨g, o, none⟩ = (#[.slice p0 x.xTape.length c0, .slice p1 x.xUsed.length c1, .int .i64 x.xSent, .slice p2 x.xHeard.length c2, .int .i64 x.xCheat.xWho, .int .i64 x.xCheat.xAt, .int .i64 x.xCheat.xBy, .bool x.xCheat.xCry, .bool x.xQuarrel.xSome, .int .i64 x.xQuarrel.xFrom, .int .i64 x.xQuarrel.xCheck, .int .i64 x.xQuarrel.xTo, .int .i64 x.xQuarrel.xTold, .int .i64 x.xQuarrel.xHeard, .int .i64 x.xQuarrel.xOther, .int .i64 x.xQuarrel.xVowed] : Array Value)[o]?) ∧ V.cell? ⟨gx, ox, none⟩ = some (.int .i64 A.xQ) ∧ V.cell? ⟨gx, ox + 1, none⟩ = some (.slice pX A.xViews.length cX)) (by kernel_rfl) ?_
  try (change wpAnyH _ _ _ _ _ _ _ _ (World.drew _))
  have hS : (∀ o, w4.drew.cell? ⟨g, o, none⟩ = (#[.slice p0 x.xTape.length c0, .slice p1 x.xUsed.length c1, .int .i64 x.xSent, .slice p2 x.xHeard.length c2, .int .i64 x.xCheat.xWho, .int .i64 x.xCheat.xAt, .int .i64 x.xCheat.xBy, .bool x.xCheat.xCry, .bool x.xQuarrel.xSome, .int .i64 x.xQuarrel.xFrom, .int .i64 x.xQuarrel.xCheck, .int .i64 x.xQuarrel.xTo, .int .i64 x.xQuarrel.xTold, .int .i64 x.xQuarrel.xHeard, .int .i64 x.xQuarrel.xOther, .int .i64 x.xQuarrel.xVowed] : Array Value)[o]?) ∧ w4.drew.cell? ⟨gx, ox, none⟩ = some (.int .i64 A.xQ) ∧ w4.drew.cell? ⟨gx, ox + 1, none⟩ = some (.slice pX A.xViews.length cX) := HC.out _ Qd
  refine wpAnyH_take (i := 0) (v := .agg (#[.slice p0 x.xTape.length c0, .slice p1 x.xUsed.length c1, .int .i64 x.xSent, .slice p2 x.xHeard.length c2, .int .i64 x.xCheat.xWho, .int .i64 x.xCheat.xAt, .int .i64 x.xCheat.xBy, .bool x.xCheat.xCry, .bool x.xQuarrel.xSome, .int .i64 x.xQuarrel.xFrom, .int .i64 x.xQuarrel.xCheck, .int .i64 x.xQuarrel.xTo, .int .i64 x.xQuarrel.xTold, .int .i64 x.xQuarrel.xHeard, .int .i64 x.xQuarrel.xOther, .int .i64 x.xQuarrel.xVowed])) rfl (by kernel_rfl) (by kernel_rfl) (by kernel_rfl) (fun _ _ _ h => h) (Or.inl ⟨by rfl, ?_⟩) hS ?_
  · intro w' hSw
    obtain ⟨hS0, hS1, hS2⟩ := hSw
    go_simp
  (try simp only [List.getElem_toArray]); (try simp only [List.getElem_cons_succ]); (try simp only [List.getElem_cons_zero]); (try simp only [Act.put]); (try simp only [List.setIfInBounds_toArray]); (try simp only [List.set_cons_succ]); (try simp only [List.set_cons_zero])
  refine wpAnyH_take (i := 1) (v := .slice (some ⟨gx, ox, none⟩) nx capx) rfl (by kernel_rfl) (by kernel_rfl) (by kernel_rfl) (fun _ _ _ h => h) (Or.inl ⟨by rfl, ?_⟩) hS ?_
  · intro w' hSw
    obtain ⟨hS0, hS1, hS2⟩ := hSw
    go_simp
  (try simp only [List.getElem_toArray]); (try simp only [List.getElem_cons_succ]); (try simp only [List.getElem_cons_zero]); (try simp only [Act.put]); (try simp only [List.setIfInBounds_toArray]); (try simp only [List.set_cons_succ]); (try simp only [List.set_cons_zero])
  refine wpAnyH_take (i := 2) (v := .pointer (some ⟨gx, ox, none⟩)) rfl (by kernel_rfl) (by kernel_rfl) (by kernel_rfl) (fun _ _ _ h => h) (Or.inl ⟨by rfl, ?_⟩) hS ?_
  · intro w' hSw
    obtain ⟨hS0, hS1, hS2⟩ := hSw
    go_simp
  (try simp only [List.getElem_toArray]); (try simp only [List.getElem_cons_succ]); (try simp only [List.getElem_cons_zero]); (try simp only [Act.put]); (try simp only [List.setIfInBounds_toArray]); (try simp only [List.set_cons_succ]); (try simp only [List.set_cons_zero])
  refine wpAnyH_take (i := 3) (v := .agg #[.int .i64 A.xQ, .slice pX A.xViews.length cX]) rfl (by kernel_rfl) (by kernel_rfl) (by kernel_rfl) (fun _ _ _ h => h) (Or.inl ⟨by rfl, ?_⟩) hS ?_
  · intro w' hSw
    obtain ⟨hS0, hS1, hS2⟩ := hSw
    go_simp
  (try simp only [List.getElem_toArray]); (try simp only [List.getElem_cons_succ]); (try simp only [List.getElem_cons_zero]); (try simp only [Act.put]); (try simp only [List.setIfInBounds_toArray]); (try simp only [List.set_cons_succ]); (try simp only [List.set_cons_zero])
  refine wpAnyH_take (i := 4) (v := .pointer (some ⟨w3.heap.size, 0, none⟩)) rfl (by kernel_rfl) (by kernel_rfl) (by kernel_rfl) (fun _ _ _ h => h) (Or.inl ⟨by rfl, ?_⟩) hS ?_
  · intro w' hSw
    obtain ⟨hS0, hS1, hS2⟩ := hSw
    go_simp
  (try simp only [List.getElem_toArray]); (try simp only [List.getElem_cons_succ]); (try simp only [List.getElem_cons_zero]); (try simp only [Act.put]); (try simp only [List.setIfInBounds_toArray]); (try simp only [List.set_cons_succ]); (try simp only [List.set_cons_zero])
  refine wpAnyH_take (i := 5) (v := .pointer (some ⟨w3.heap.size, 0, none⟩)) rfl (by kernel_rfl) (by kernel_rfl) (by kernel_rfl) (fun _ _ _ h => h) (Or.inl ⟨by rfl, ?_⟩) hS ?_
  · intro w' hSw
    obtain ⟨hS0, hS1, hS2⟩ := hSw
    go_simp
  (try simp only [List.getElem_toArray]); (try simp only [List.getElem_cons_succ]); (try simp only [List.getElem_cons_zero]); (try simp only [Act.put]); (try simp only [List.setIfInBounds_toArray]); (try simp only [List.set_cons_succ]); (try simp only [List.set_cons_zero])
  refine wpAnyH_ready (rs := [6]) (by kernel_rfl) (by simp) ?_
  refine AllReadyH.cons (o := _) rfl (fun K hK => ?_) AllReadyH.nil
  rw [if_pos (by rfl)]
  go_simp
  refine hK.out _ _ (HC.out _ (Qd.alloc Qd.size (.cells #[.int .i64 256, .int .i64 256, .int .i64 2] 2))) (fun hS => ?_)
  clear hK K
  (try simp only [List.getElem_toArray]); (try simp only [List.getElem_cons_succ]); (try simp only [List.getElem_cons_zero]); (try simp only [Act.put]); (try simp only [List.setIfInBounds_toArray]); (try simp only [List.set_cons_succ]); (try simp only [List.set_cons_zero])
  refine wpAnyH_ready (rs := [7]) (by kernel_rfl) (by simp) ?_
  refine AllReadyH.cons (o := _) rfl (fun K hK => ?_) AllReadyH.nil
  rw [if_pos (by rfl)]
  go_simp
  go_at_call 56
  refine (spec_l1Pick w3.heap.size a cap zs (5 + 7 * 3) _ [256, 256, 2] [w4.heap.size] _ (sd.alloc _) (by omega) (Ints.lit w4.drew _ _ 3 rfl rfl (by omega)) (by simp) (by simp) (by simp at lb ⊢; omega)).mono ?_
  rintro e w11 ⟨qq, rfl, hqm, s11, o11⟩
  have hq2 : qq ≤ 256 := by simp at hqm; omega
  have q11 : Below w3.heap.size w3 w11 := Qd.trans ((((Off.refl _ _).alloc _).trans o11).toBelow Qd.size (by simp))
  have l11 := s11.blk.lt
  dsimp only
  refine hK.out _ _ (HC.out _ q11) (fun hS => ?_)
  clear hK K
  (try simp only [List.getElem_toArray]); (try simp only [List.getElem_cons_succ]); (try simp only [List.getElem_cons_zero]); (try simp only [Act.put]); (try simp only [List.setIfInBounds_toArray]); (try simp only [List.set_cons_succ]); (try simp only [List.set_cons_zero])
  refine wpAnyH_ready (rs := [8]) (by kernel_rfl) (by simp) ?_
  refine AllReadyH.cons (o := _) rfl (fun K hK => ?_) AllReadyH.nil
  rw [if_pos (by rfl)]
  go_simp
  go_at_call 30
  refine (spec_l3Draw w3.heap.size a cap zs _ qq _ s11 (by omega) hq2).mono ?_
  rintro e w12 ⟨pB, cB, ps, bm, rfl, MB, l4, fB, s12, o12⟩
  have q12 := q11.trans (o12.toBelow q11.size (by simp))
  have lm : (mirRows ps).length = 4 := by simp [mirRows]
  have b12 : Below g w1 w12 := b3.trans (q12.mono z3)
  have Y12 := Y1.keep (by rw [hg]; exact b12)
  have U12 := U1.keep (by rw [hg]; exact b12)
  have V12 := V1.keep (by rw [hg]; exact b12)
  dsimp only
  refine hK.out _ _ (HC.out _ q12) (fun hS => ?_)
  clear hK K
  (try simp only [List.getElem_toArray]); (try simp only [List.getElem_cons_succ]); (try simp only [List.getElem_cons_zero]); (try simp only [Act.put]); (try simp only [List.setIfInBounds_toArray]); (try simp only [List.set_cons_succ]); (try simp only [List.set_cons_zero])
  refine wpAnyH_ready (rs := [9]) (by kernel_rfl) (by simp) ?_
  refine AllReadyH.cons (o := _) rfl (fun K hK => ?_) AllReadyH.nil
  refine step_store_blk rfl 33 _ _ rfl w.heap.size (#[.slice p0 x.xTape.length c0, .slice p1 x.xUsed.length c1, .int .i64 x.xSent, .slice p2 x.xHeard.length c2, .int .i64 x.xCheat.xWho, .int .i64 x.xCheat.xAt, .int .i64 x.xCheat.xBy, .bool x.xCheat.xCry, .bool x.xQuarrel.xSome, .int .i64 x.xQuarrel.xFrom, .int .i64 x.xQuarrel.xCheck, .int .i64 x.xQuarrel.xTo, .int .i64 x.xQuarrel.xTold, .int .i64 x.xQuarrel.xHeard, .int .i64 x.xQuarrel.xOther, .int .i64 x.xQuarrel.xVowed]) rfl rfl Y12 rfl (by kernel_rfl) (by kernel_rfl) ?_
  intro w20 Y20 O20
  have U20 := U12.off O20 (by simp)
  have V20 := V12.off O20 (by simp)
  have S20 : (∀ o, w20.cell? ⟨g, o, none⟩ = (#[.slice p0 x.xTape.length c0, .slice p1 x.xUsed.length c1, .int .i64 x.xSent, .slice p2 x.xHeard.length c2, .int .i64 x.xCheat.xWho, .int .i64 x.xCheat.xAt, .int .i64 x.xCheat.xBy, .bool x.xCheat.xCry, .bool x.xQuarrel.xSome, .int .i64 x.xQuarrel.xFrom, .int .i64 x.xQuarrel.xCheck, .int .i64 x.xQuarrel.xTo, .int .i64 x.xQuarrel.xTold, .int .i64 x.xQuarrel.xHeard, .int .i64 x.xQuarrel.xOther, .int .i64 x.xQuarrel.xVowed] : Array Value)[o]?) ∧ w20.cell? ⟨gx, ox, none⟩ = some (.int .i64 A.xQ) ∧ w20.cell? ⟨gx, ox + 1, none⟩ = some (.slice pX A.xViews.length cX) := ⟨(((Z3.keep q12)).off O20 (by simp; omega)).at.1, ((O20.at gx (by have := q12.size; show gx < _; omega) (by simp; omega)).1 (ox)).trans hS.2.1, ((O20.at gx (by have := q12.size; show gx < _; omega) (by simp; omega)).1 (ox + 1)).trans hS.2.2⟩
  refine hK.out _ _ S20 (fun hS => ?_)
  clear hK K
  (try simp only [List.getElem_toArray]); (try simp only [List.getElem_cons_succ]); (try simp only [List.getElem_cons_zero]); (try simp only [Act.put]); (try simp only [List.setIfInBounds_toArray]); (try simp only [List.set_cons_succ]); (try simp only [List.set_cons_zero])
  refine wpAnyH_ready (rs := [10]) (by kernel_rfl) (by simp) ?_
  refine AllReadyH.cons (o := _) rfl (fun K hK => ?_) AllReadyH.nil
  refine step_store_blk rfl 38 _ _ rfl (w.heap.size + 1) #[.int .i64 A.xQ, .slice pX A.xViews.length cX] rfl rfl U20 rfl (by kernel_rfl) (by kernel_rfl) ?_
  intro w21 U21 O21
  have Y21 := Y20.off O21 (by simp)
  have V21 := V20.off O21 (by simp)
  have S21 : (∀ o, w21.cell? ⟨g, o, none⟩ = (#[.slice p0 x.xTape.length c0, .slice p1 x.xUsed.length c1, .int .i64 x.xSent, .slice p2 x.xHeard.length c2, .int .i64 x.xCheat.xWho, .int .i64 x.xCheat.xAt, .int .i64 x.xCheat.xBy, .bool x.xCheat.xCry, .bool x.xQuarrel.xSome, .int .i64 x.xQuarrel.xFrom, .int .i64 x.xQuarrel.xCheck, .int .i64 x.xQuarrel.xTo, .int .i64 x.xQuarrel.xTold, .int .i64 x.xQuarrel.xHeard, .int .i64 x.xQuarrel.xOther, .int .i64 x.xQuarrel.xVowed] : Array Value)[o]?) ∧ w21.cell? ⟨gx, ox, none⟩ = some (.int .i64 A.xQ) ∧ w21.cell? ⟨gx, ox + 1, none⟩ = some (.slice pX A.xViews.length cX) := ⟨(((Z3.keep q12)).off (O20.trans' O21) (by simp; omega)).at.1, ((O21.at gx (by have := q12.size; have := O20.size; show gx < _; omega) (by simp; omega)).1 (ox)).trans hS.2.1, ((O21.at gx (by have := q12.size; have := O20.size; show gx < _; omega) (by simp; omega)).1 (ox + 1)).trans hS.2.2⟩
  refine hK.out _ _ S21 (fun hS => ?_)
  clear hK K
  (try simp only [List.getElem_toArray]); (try simp only [List.getElem_cons_succ]); (try simp only [List.getElem_cons_zero]); (try simp only [Act.put]); (try simp only [List.setIfInBounds_toArray]); (try simp only [List.set_cons_succ]); (try simp only [List.set_cons_zero])
  refine wpAnyH_ready (rs := [11]) (by kernel_rfl) (by simp) ?_
  refine AllReadyH.cons (o := _) rfl (fun K hK => ?_) AllReadyH.nil
  refine step_store_blk rfl 38 _ _ rfl (w.heap.size + 2) #[.int .i64 qq, .slice pB 4 cB] rfl rfl V21 rfl (by kernel_rfl) (by kernel_rfl) ?_
  intro w22 V22 O22
  have Y22 := Y21.off O22 (by simp)
  have U22 := U21.off O22 (by simp)
  have O23 := O20.trans' (O21.trans' O22)
  have S22 : (∀ o, w22.cell? ⟨g, o, none⟩ = (#[.slice p0 x.xTape.length c0, .slice p1 x.xUsed.length c1, .int .i64 x.xSent, .slice p2 x.xHeard.length c2, .int .i64 x.xCheat.xWho, .int .i64 x.xCheat.xAt, .int .i64 x.xCheat.xBy, .bool x.xCheat.xCry, .bool x.xQuarrel.xSome, .int .i64 x.xQuarrel.xFrom, .int .i64 x.xQuarrel.xCheck, .int .i64 x.xQuarrel.xTo, .int .i64 x.xQuarrel.xTold, .int .i64 x.xQuarrel.xHeard, .int .i64 x.xQuarrel.xOther, .int .i64 x.xQuarrel.xVowed] : Array Value)[o]?) ∧ w22.cell? ⟨gx, ox, none⟩ = some (.int .i64 A.xQ) ∧ w22.cell? ⟨gx, ox + 1, none⟩ = some (.slice pX A.xViews.length cX) := ⟨(((Z3.keep q12)).off O23 (by simp; omega)).at.1, ((O22.at gx (by have := q12.size; have := O20.size; have := O21.size; show gx < _; omega) (by simp; omega)).1 (ox)).trans hS.2.1, ((O22.at gx (by have := q12.size; have := O20.size; have := O21.size; show gx < _; omega) (by simp; omega)).1 (ox + 1)).trans hS.2.2⟩
  refine hK.out _ _ S22 (fun hS => ?_)
  clear hK K
  (try simp only [List.getElem_toArray]); (try simp only [List.getElem_cons_succ]); (try simp only [List.getElem_cons_zero]); (try simp only [Act.put]); (try simp only [List.setIfInBounds_toArray]); (try simp only [List.set_cons_succ]); (try simp only [List.set_cons_zero])
  refine wpAnyH_done (by kernel_rfl) ?_ _
  clear hS S20 S21 S22
  have ya := Y22.at.1
  have ua := U22.at.1
  have va := V22.at.1
  have OA : Off ([w.heap.size] ++ ([w.heap.size + 1] ++ [w.heap.size + 2])) w1 w22 := (Off.ofBelow (by rw [hg]; exact b12)).trans O23
  have FN := HRN.out w22 _ OA (fun z hz => by simp at hz; omega)
  have FA := HRA.out w22 _ OA (fun z hz => by simp at hz; omega)
  have FB : RdMirror w22 (.agg #[.int .i64 qq, .slice pB 4 cB]) ⟨qq, mirRows ps⟩ := ⟨pB, cB, by rw [lm], by rw [lm]; exact (MB.off O23 (fun y hy hm => by have := fB y hy; have := q11.size; simp at hm; omega)).reads⟩
  have BF : Below w.heap.size w w22 := B1.trans (OA.toBelow B1.size (fun z hz => by simp at hz; omega))
  go_wp2
  exact bodyPost_ret (v := .tuple #[.agg (#[.slice p0 x.xTape.length c0, .slice p1 x.xUsed.length c1, .int .i64 x.xSent, .slice p2 x.xHeard.length c2, .int .i64 x.xCheat.xWho, .int .i64 x.xCheat.xAt, .int .i64 x.xCheat.xBy, .bool x.xCheat.xCry, .bool x.xQuarrel.xSome, .int .i64 x.xQuarrel.xFrom, .int .i64 x.xQuarrel.xCheck, .int .i64 x.xQuarrel.xTo, .int .i64 x.xQuarrel.xTold, .int .i64 x.xQuarrel.xHeard, .int .i64 x.xQuarrel.xOther, .int .i64 x.xQuarrel.xVowed]), .agg #[.int .i64 A.xQ, .slice pX A.xViews.length cX], .agg #[.int .i64 qq, .slice pB 4 cB]]) (by simp [results, Tryz.results20, go_sem, ya, ua, va]) rfl ⟨_, x, _, _, A, ⟨qq, mirRows ps⟩, rfl, FN, HF.out, FA, FB, BF⟩
end Go.Proofs.YtepobckhfodngabGreat
