/-
  Contracts of what the laws draw for chapter 1: whatever the bytes are, what is drawn lies in its bounds.
-/
import Derived.Test.YtadppilldijijaaSrc
import Derived.Test.YtadppilldijijaaBits
namespace Go.Proofs.Ytadppilldijijaa
open Go.ChangeShapes Go.WideShapes Go.ChangeAt Go.RowKit
set_option linter.unusedVariables false

set_option maxHeartbeats 1000000 in
theorem spec_l1Two (a : Option Addr) (cap : Nat) (zs : List Int) (w : World) (hr : Reads w .u8 (.slice a zs.length cap) zs) (hl : zs.length ≤ 1048576) (hb : ∀ i, 0 ≤ zs.getD i 0 ∧ zs.getD i 0 ≤ 255) :
    Calls Try.prog 61 #[.slice a zs.length cap] w fun e w' => ∃ q x y : Int, e = .returned (.tuple #[.int .i64 q, .int .i64 x, .int .i64 y]) ∧ (2 ≤ q ∧ q ≤ 256) ∧ (-1 ≤ x ∧ x ≤ 256) ∧ (0 ≤ y ∧ y ≤ 256) ∧ Below w.heap.size w w' := by
  go_enter Try.func61, Try.ntmps61
  go_wp2_with fail
  refine (spec_l1Source a cap zs w hr hl hb).mono ?_
  rintro e w1 ⟨rfl, s1, hb1⟩
  have z1 := s1.blk.lt
  go_wp2_with fail
  refine (spec_l1Pick w.heap.size a cap zs 0 _ [2, 256, 256, 3] [w1.heap.size] _ (s1.alloc _) (by omega) (Ints.lit w1 _ _ 4 rfl rfl (by omega)) (by simp) (by simp) (by simp; omega)).mono ?_
  rintro e w2 ⟨q, rfl, hq, s2, o2⟩
  go_wp2_with fail
  refine (spec_l1Next w.heap.size a cap zs _ _ _ s2 (by omega) (by omega)).mono ?_
  rintro e w3 ⟨r3, rfl, hr3, s3, o3⟩
  go_wp2_with fail
  refine (spec_l1Next w.heap.size a cap zs _ _ _ s3 (by omega) (by omega)).mono ?_
  rintro e w4 ⟨r4, rfl, hr4, s4, o4⟩
  have z4 := s4.blk.lt
  go_wp2_with fail
  refine (spec_l1Pick w.heap.size a cap zs _ _ [r3, r4, 255, 256, -1] [w4.heap.size] _ (s4.alloc _) (by omega) (Ints.lit w4 _ _ 5 rfl rfl (by omega)) (by simp) (by simp) (by simp; omega)).mono ?_
  rintro e w5 ⟨x, rfl, hx, s5, o5⟩
  go_wp2_with fail
  refine (spec_l1Next w.heap.size a cap zs _ _ _ s5 (by omega) (by omega)).mono ?_
  rintro e w6 ⟨r6, rfl, hr6, s6, o6⟩
  go_wp2_with fail
  refine (spec_l1Next w.heap.size a cap zs _ _ _ s6 (by omega) (by omega)).mono ?_
  rintro e w7 ⟨r7, rfl, hr7, s7, o7⟩
  have z7 := s7.blk.lt
  go_wp2_with fail
  refine (spec_l1Pick w.heap.size a cap zs _ _ [r6, r7, 255] [w7.heap.size] _ (s7.alloc _) (by omega) (Ints.lit w7 _ _ 3 rfl rfl (by omega)) (by simp) (by simp) (by simp; omega)).mono ?_
  rintro e w8 ⟨y, rfl, hy, s8, o8⟩
  go_wp2
  go_ret3
  have t3 := hr3.1 (by omega)
  have t4 := hr4.1 (by omega)
  have t6 := hr6.1 (by omega)
  have t7 := hr7.1 (by omega)
  have oo : Off [w.heap.size] w1 w8 := ((Off.refl _ _).alloc _).trans (o2.trans (o3.trans (o4.trans (((Off.refl _ _).alloc _).trans (o5.trans (o6.trans (o7.trans (((Off.refl _ _).alloc _).trans o8))))))))
  refine ⟨q, x, y, rfl, ?_, ?_, ?_, hb1.trans (oo.toBelow hb1.size (by simp))⟩
  · simp at hq; omega
  · simp at hx; omega
  · simp at hy; omega
theorem spec_DrawAddRing (a : Option Addr) (cap : Nat) (zs : List Int) (w : World) (hr : Reads w .u8 (.slice a zs.length cap) zs) (hl : zs.length ≤ 1048576) (hb : ∀ i, 0 ≤ zs.getD i 0 ∧ zs.getD i 0 ≤ 255) :
    Calls Try.prog 10 #[.slice a zs.length cap] w fun e w' => ∃ q x y : Int, e = .returned (.tuple #[.int .i64 q, .int .i64 x, .int .i64 y]) ∧ (2 ≤ q ∧ q ≤ 256) ∧ (-1 ≤ x ∧ x ≤ 256) ∧ (0 ≤ y ∧ y ≤ 256) ∧ Below w.heap.size w w' := by
  go_enter Try.func10, Try.ntmps10
  go_wp2_with fail
  refine (spec_l1Two a cap zs w hr hl hb).mono ?_
  rintro e w1 ⟨q, x, y, rfl, h1, h2, h3, hb1⟩
  go_wp2
  go_ret3
  exact ⟨q, x, y, rfl, h1, h2, h3, hb1⟩
set_option maxHeartbeats 1000000 in
theorem spec_DrawMajorityOf (a : Option Addr) (cap : Nat) (zs : List Int) (w : World) (hr : Reads w .u8 (.slice a zs.length cap) zs) (hl : zs.length ≤ 1048576) (hb : ∀ i, 0 ≤ zs.getD i 0 ∧ zs.getD i 0 ≤ 255) :
    Calls Try.prog 28 #[.slice a zs.length cap] w fun e w' => ∃ p n c, ∃ xs : List Int, e = .returned (.slice p n c) ∧ Reads w' .i64 (.slice p n c) xs ∧ Below w.heap.size w w' := by
  go_enter Try.func28, Try.ntmps28
  go_wp2_with fail
  refine (spec_l1Source a cap zs w hr hl hb).mono ?_
  rintro e w1 ⟨rfl, s1, hb1⟩
  go_wp2_with fail
  refine (spec_l1Next w.heap.size a cap zs _ _ _ s1 (by omega) (by omega)).mono ?_
  rintro e w2 ⟨r2, rfl, hr2, s2, o2⟩
  go_wp2_with fail
  refine (spec_l1Next w.heap.size a cap zs _ _ _ s2 (by omega) (by omega)).mono ?_
  rintro e w3 ⟨r3, rfl, hr3, s3, o3⟩
  go_wp2_with fail
  refine (spec_l1Next w.heap.size a cap zs _ _ _ s3 (by omega) (by omega)).mono ?_
  rintro e w4 ⟨r4, rfl, hr4, s4, o4⟩
  have z4 := s4.blk.lt
  go_wp2_with fail
  obtain ⟨e4, i4⟩ := Ints.lit w4 _ [r2, r3, r4] 3 rfl rfl (by omega)
  refine (spec_l1Chance w.heap.size a cap zs _ _ _ (s4.alloc _) (by omega) (by omega)).mono ?_
  rintro e w5 ⟨r5, rfl, s5, o5⟩
  have i5 := Own.off i4 o5 (by simp; omega)
  have hR := Ints.reads ⟨_, i5⟩
  have hB : Below w.heap.size w w5 := hb1.trans ((o2.trans (o3.trans (o4.trans (((Off.refl _ _).alloc _).trans o5)))).toBelow hb1.size (by simp))
  clear i4
  cases r5 with
  | false =>
    go_wp2
    go_ret
    exact ⟨_, _, _, _, rfl, hR, hB⟩
  | true =>
    go_wp2
    go_ret
    refine ⟨_, _, _, [r3, r4], rfl, ?_, hB⟩
    refine ⟨_, _, rfl, by simp [maxLen], fun _ => ⟨w4.heap.size, 1, rfl, Own.lt i5 _ (by simp), fun i hi => ?_⟩⟩
    have := Own.cell i5 (1 + i) (by simp at hi ⊢; omega)
    rw [this]
    match i, hi with
    | 0, _ => rfl
    | 1, _ => rfl
set_option maxHeartbeats 1000000 in
theorem spec_DrawRingOf (a : Option Addr) (cap : Nat) (zs : List Int) (w : World) (hr : Reads w .u8 (.slice a zs.length cap) zs) (hl : zs.length ≤ 1048576) (hb : ∀ i, 0 ≤ zs.getD i 0 ∧ zs.getD i 0 ≤ 255) :
    Calls Try.prog 17 #[.slice a zs.length cap] w fun e w' => ∃ n : Int, e = .returned (.int .i64 n) ∧ (-300 ≤ n ∧ n ≤ 300) ∧ Below w.heap.size w w' := by
  go_enter Try.func17, Try.ntmps17
  go_wp2_with fail
  refine (spec_l1Source a cap zs w hr hl hb).mono ?_
  rintro e w1 ⟨rfl, s1, hb1⟩
  go_wp2_with fail
  refine (spec_l1Next w.heap.size a cap zs _ _ _ s1 (by omega) (by omega)).mono ?_
  rintro e w2 ⟨r2, rfl, hr2, s2, o2⟩
  obtain ⟨b1, b2⟩ := hr2.1 (by omega)
  have z2 := s2.blk.lt
  go_wp2_with fail
  refine (spec_l1Pick w.heap.size a cap zs _ _ [r2 - 128, -128, 127, 128, -129] [w2.heap.size] _ (s2.alloc _) (by omega) (Ints.lit w2 _ _ 5 rfl rfl (by omega)) (by simp) (by simp) (by simp; omega)).mono ?_
  rintro e w3 ⟨r, rfl, hm, s3, o3⟩
  go_wp2
  go_ret
  refine ⟨r, rfl, ?_, hb1.trans ((o2.trans (((Off.refl _ _).alloc _).trans o3)).toBelow hb1.size (by simp))⟩
  simp at hm; omega
set_option maxHeartbeats 1000000 in
theorem spec_DrawSignedOf (a : Option Addr) (cap : Nat) (zs : List Int) (w : World) (hr : Reads w .u8 (.slice a zs.length cap) zs) (hl : zs.length ≤ 1048576) (hb : ∀ i, 0 ≤ zs.getD i 0 ∧ zs.getD i 0 ≤ 255) :
    Calls Try.prog 78 #[.slice a zs.length cap] w fun e w' => ∃ n : Int, e = .returned (.int .i64 n) ∧ (-300 ≤ n ∧ n ≤ 300) ∧ Below w.heap.size w w' := by
  go_enter Try.func78, Try.ntmps78
  go_wp2_with fail
  refine (spec_l1Source a cap zs w hr hl hb).mono ?_
  rintro e w1 ⟨rfl, s1, hb1⟩
  go_wp2_with fail
  refine (spec_l1Next w.heap.size a cap zs _ _ _ s1 (by omega) (by omega)).mono ?_
  rintro e w2 ⟨r2, rfl, hr2, s2, o2⟩
  obtain ⟨b1, b2⟩ := hr2.1 (by omega)
  have z2 := s2.blk.lt
  go_wp2_with fail
  refine (spec_l1Pick w.heap.size a cap zs _ _ [r2, 127, 128, 255, 256, -1] [w2.heap.size] _ (s2.alloc _) (by omega) (Ints.lit w2 _ _ 6 rfl rfl (by omega)) (by simp) (by simp) (by simp; omega)).mono ?_
  rintro e w3 ⟨r, rfl, hm, s3, o3⟩
  go_wp2
  go_ret
  refine ⟨r, rfl, ?_, hb1.trans ((o2.trans (((Off.refl _ _).alloc _).trans o3)).toBelow hb1.size (by simp))⟩
  simp at hm; omega
theorem spec_DrawBitsOf (a : Option Addr) (cap : Nat) (zs : List Int) (w : World) (hr : Reads w .u8 (.slice a zs.length cap) zs) (hl : zs.length ≤ 1048576) (hb : ∀ i, 0 ≤ zs.getD i 0 ∧ zs.getD i 0 ≤ 255) :
    Calls Try.prog 26 #[.slice a zs.length cap] w fun e w' => ∃ n : Int, e = .returned (.int .i64 n) ∧ (-300 ≤ n ∧ n ≤ 300) ∧ Below w.heap.size w w' := by
  go_enter Try.func26, Try.ntmps26
  go_wp2_with fail
  refine (spec_DrawSignedOf a cap zs w hr hl hb).mono ?_
  rintro e w1 ⟨n, rfl, h1, hb1⟩
  go_wp2
  go_ret
  exact ⟨n, rfl, h1, hb1⟩
set_option maxHeartbeats 2000000 in
theorem spec_DrawFromBits (a : Option Addr) (cap : Nat) (zs : List Int) (w : World) (hr : Reads w .u8 (.slice a zs.length cap) zs) (hl : zs.length ≤ 1048576) (hb : ∀ i, 0 ≤ zs.getD i 0 ∧ zs.getD i 0 ≤ 255) :
    Calls Try.prog 21 #[.slice a zs.length cap] w fun e w' => ∃ p n c, ∃ xs : List Int, e = .returned (.slice p n c) ∧ Reads w' .i64 (.slice p n c) xs ∧ Below w.heap.size w w' := by
  go_enter Try.func21, Try.ntmps21
  go_wp2_with fail
  refine (spec_l1Source a cap zs w hr hl hb).mono ?_
  rintro e w1 ⟨rfl, s1, hb1⟩
  go_wp2_with fail
  refine (spec_l1Next w.heap.size a cap zs _ _ _ s1 (by omega) (by omega)).mono ?_
  rintro e w2 ⟨r2, rfl, hr2, s2, o2⟩
  obtain ⟨b1, b2⟩ := hr2.1 (by omega)
  go_wp2_with fail
  refine (spec_l1Bits _ _ b1 (by omega)).mono ?_
  rintro e w3 ⟨lv, bs, rfl, i3, g3, hb3⟩
  obtain ⟨g, c, rfl, rfl, hc1, hc2⟩ := Own.shape i3 (by rw [bitsN_length]; omega)
  have e8 := bitsN_length r2 8
  unfold IntsT at i3
  generalize hbits : bitsN r2 8 = bits at *
  clear hbits
  rw [e8] at i3 hc1 ⊢
  have hg : w2.heap.size ≤ g := g3 g (by simp)
  have z2 := s2.blk.lt
  have s3 := s2.keep hb3
  go_wp2_with fail
  refine (spec_l1Next w.heap.size a cap zs _ _ _ s3 (by omega) (by omega)).mono ?_
  rintro e w4 ⟨r4, rfl, hr4, s4, o4⟩
  obtain ⟨d1, d2⟩ := hr4.1 (by omega)
  have i4 := Own.off i3 o4 (by simp; omega)
  have q4 : Below w.heap.size w w4 := hb1.trans ((o2.trans ((Off.ofBelow hb3).trans o4)).toBelow hb1.size (by simp))
  by_cases h0 : r4 = 0
  · have e0 : (r4 == 0) = true := by simpa using h0
    clear h0
    go_wp2_with fail
    refine (spec_l1Next w.heap.size a cap zs _ _ _ s4 (by omega) (by omega)).mono ?_
    rintro e w5 ⟨r5, rfl, hr5, s5, o5⟩
    obtain ⟨m1, m2⟩ := hr5.1 (by omega)
    obtain ⟨m, rfl⟩ := Int.eq_ofNat_of_zero_le m1
    have i5 := Own.off i4 o5 (by simp; omega)
    have z5 := s5.blk.lt
    have lg := Own.lt i5 g (by simp)
    go_wp2_with fail
    refine (spec_l1Pick w.heap.size a cap zs _ _ [2, -1, 1] [w5.heap.size] _ (s5.alloc _) (by omega) (Ints.lit w5 _ _ 3 rfl rfl (by omega)) (by simp) (by simp) (by simp; omega)).mono ?_
    rintro e w6 ⟨r6, rfl, hm6, s6, o6⟩
    have i6 := Own.off (Own.alloc i5 _) o6 (by simp; omega)
    have c1 : ∃ u, w6.cell? ⟨g, m, none⟩ = some u := ⟨_, (Own.cell i6 m (by omega)).trans (List.getElem?_eq_getElem (by simp; omega))⟩
    obtain ⟨u, c1⟩ := c1
    have f1 : w6.frozen? ⟨g, m, none⟩ = false := Own.frozen i6 m
    have i7 := Own.set i6 m (.int .i64 r6)
    rw [← List.map_set] at i7
    have q6 : Below w.heap.size w w6 := q4.trans ((o5.trans (((Off.refl _ _).alloc _).trans o6)).toBelow q4.size (by simp))
    have hm8 : (m : Int) < 8 := m2
    go_wp2
    go_ret
    have q4s := hb1.size
    have q2s := o2.size
    exact ⟨_, _, _, bits.set m r6, rfl, Ints.reads ⟨_, by simpa [e8] using i7⟩, q6.setCell (by simp; omega) _⟩
  · have e0 : (r4 == 0) = false := by simpa using h0
    by_cases h1 : r4 = 1
    · have e1 : (r4 == 1) = true := by simpa using h1
      clear h0 h1
      go_wp2
      go_ret
      refine ⟨_, _, _, bits.drop 1, rfl, ?_, q4⟩
      refine ⟨some ⟨g, 1, none⟩, c - 1, by simp [e8], by simp [maxLen, e8], fun _ => ⟨g, 1, rfl, Own.lt i4 _ (by simp), fun i hi => ?_⟩⟩
      have hi' : i + 1 < bits.length := by simp at hi; omega
      have := Own.cell i4 (1 + i) (by omega)
      rw [this, Nat.add_comm 1 i]
      simp [hi']
    · have e1 : (r4 == 1) = false := by simpa using h1
      clear h0 h1
      go_wp2
      go_ret
      exact ⟨_, _, _, bits, rfl, Ints.reads ⟨_, by rw [e8]; exact i4⟩, q4⟩
end Go.Proofs.Ytadppilldijijaa
