/-
  Draws of chapter 2: what the laws over tapes are tried at.
-/
import Derived.Test.YtadppilldijijaaDraw2
namespace Go.Proofs.Ytadppilldijijaa
open Go.ChangeShapes Go.WideShapes Go.ChangeAt Go.RowKit
set_option linter.unusedVariables false

set_option maxHeartbeats 2000000 in
theorem spec_DrawTapeFor (a : Option Addr) (cap : Nat) (zs : List Int) (w : World) (hr : Reads w .u8 (.slice a zs.length cap) zs) (hl : zs.length ≤ 1048576) (hb : ∀ i, 0 ≤ zs.getD i 0 ∧ zs.getD i 0 ≤ 255) :
    Calls Try.prog 31 #[.slice a zs.length cap] w fun e w' => ∃ p c xs r, e = .returned (.tuple #[.agg #[.slice p xs.length c], .int .i64 r]) ∧ ReadsM w' (.slice p xs.length c) xs ∧ TapeB xs ∧ Below w.heap.size w w' := by
  have B0 : Below w.heap.size w (w.alloc (.cells #[.slice none 0 0] 42)) := (by repeat (first | exact Below.refl _ _ | refine Below.drew ?_ | refine below_drewN ?_ _ | refine Below.setCell ?_ (by first | omega | (simp; done) | (simp; omega)) _ | refine Below.alloc ?_ (by first | omega | (simp; done) | (simp; omega)) _))
  have Y0 := Blk.new w 42 #[.slice none 0 0]
  go_enter Try.func31, Try.ntmps31
  go_wp2_with fail
  refine (spec_l1Source a cap zs _ (hr.below B0) hl hb).mono ?_
  rintro e w1 ⟨rfl, s1, hb1⟩
  have hz : (w.alloc (.cells #[.slice none 0 0] 42)).heap.size = w.heap.size + 1 := by simp
  rw [hz] at s1 ⊢
  replace Y0 := Y0.keep hb1
  replace B0 : Below w.heap.size w w1 := B0.trans (hb1.mono B0.size)
  have l1 := s1.blk.lt
  clear hb1 hz
  go_wp2_with fail
  refine (spec_l2Bent _ a cap zs 0 _ s1 (by omega)).mono ?_
  rintro e w2 ⟨u, rfl, xs, hR, hB, ⟨j, hj, s2⟩, o2⟩
  obtain ⟨p, c, rfl, -⟩ := hR w2 [] (Off.refl _ _) (by simp)
  have HB : Hid (TapeB xs) := hB
  have HR : Hid (∀ W cs, Off cs w2 W → (∀ z ∈ cs, z < w1.heap.size) → ReadsM W (.slice p xs.length c) xs) := fun W cs o h => by
    obtain ⟨p', c', e, hm⟩ := hR W cs o h
    simp at e
    obtain ⟨rfl, rfl⟩ := e
    exact hm
  have Y2 := Y0.off o2 (by simp)
  have z2 := o2.size
  have B2 : Below w.heap.size w w2 := B0.trans (o2.toBelow B0.size (by simp))
  clear hR hB Y0 B0 o2 s1
  generalize hn : xs.length = n at *
  have HN : Hid (xs.length = n) := hn
  clear hn
  go_wp2_with fail
  refine (spec_l1Pick _ a cap zs (0 + j) _ [0, 1, 2, 3, 4, -1] [w2.heap.size] _ (s2.alloc _) (by omega) (Ints.lit w2 _ _ 6 rfl rfl (by omega)) (by simp) (by simp) (by simp; omega)).mono ?_
  rintro e w3 ⟨r, rfl, -, s3, o3⟩
  have Y3 := (Y2.alloc (.cells #[.int .i64 0, .int .i64 1, .int .i64 2, .int .i64 3, .int .i64 4, .int .i64 (-1)] 2)).off o3 (by simp)
  have O3 : Off [w.heap.size + 1] w2 w3 := ((Off.refl _ _).alloc _).trans o3
  have B3 : Below w.heap.size w w3 := B2.trans (O3.toBelow B2.size (by simp))
  have ya := Y3.at.1
  have yb := Y3.at.2
  have yl := Y3.lt
  clear s2 s3 Y2 B2 o3
  have OO : Hid (∀ W, Off [w.heap.size] w3 W → ReadsM W (.slice p n c) xs ∧ Below w.heap.size w W) := fun W O => ⟨HR.out W [w.heap.size + 1, w.heap.size] ((O3.mono (by simp)).trans (O.mono (by simp))) (by simp; omega), B3.trans (O.toBelow B3.size (by simp))⟩
  go_wp2
  exact bodyPost_ret (v := .tuple #[.agg #[.slice p n c], .int .i64 r]) (by simp [results, Try.results31, go_sem, ya]) rfl ⟨p, c, xs, r, by rw [HN.out], by rw [HN.out]; exact (OO.out _ ((Off.refl _ _).setCell _ _ (by simp))).1, HB.out, (OO.out _ ((Off.refl _ _).setCell _ _ (by simp))).2⟩
set_option maxHeartbeats 2000000 in
theorem spec_DrawSeedTape (a : Option Addr) (cap : Nat) (zs : List Int) (w : World) (hr : Reads w .u8 (.slice a zs.length cap) zs) (hl : zs.length ≤ 1048576) (hb : ∀ i, 0 ≤ zs.getD i 0 ∧ zs.getD i 0 ≤ 255) :
    Calls Try.prog 33 #[.slice a zs.length cap] w fun e w' => ∃ r r2, e = .returned (.tuple #[.int .i64 r, .int .i64 r2]) ∧ Below w.heap.size w w' := by
  go_enter Try.func33, Try.ntmps33
  go_wp2_with fail
  refine (spec_l1Source a cap zs _ hr hl hb).mono ?_
  rintro e w1 ⟨rfl, s1, hb1⟩
  have l1 := s1.blk.lt
  go_wp2_with fail
  refine (spec_l1Next _ a cap zs 0 65536 _ s1 (by omega) (by omega)).mono ?_
  rintro e w2 ⟨r1, rfl, -, s2, o2⟩
  have l2 := s2.blk.lt
  go_wp2_with fail
  refine (spec_l1Pick _ a cap zs (0 + 1) _ [r1, 65535, 65536, -1] [w2.heap.size] _ (s2.alloc _) (by omega) (Ints.lit w2 _ _ 4 rfl rfl (by omega)) (by simp) (by simp) (by simp; omega)).mono ?_
  rintro e w3 ⟨r, rfl, -, s3, o3⟩
  go_wp2_with fail
  refine (spec_l1Next _ a cap zs (0 + 1 + 1) 20 _ s3 (by omega) (by omega)).mono ?_
  rintro e w4 ⟨r4, rfl, -, s4, o4⟩
  have l4 := s4.blk.lt
  go_wp2_with fail
  refine (spec_l1Pick _ a cap zs (0 + 1 + 1 + 1) _ [r4, 0, 900, 901] [w4.heap.size] _ (s4.alloc _) (by omega) (Ints.lit w4 _ _ 4 rfl rfl (by omega)) (by simp) (by simp) (by simp; omega)).mono ?_
  rintro e w5 ⟨r2, rfl, -, s5, o5⟩
  have P : Off [w.heap.size] w1 w5 := (((((o2.alloc (.cells #[.int .i64 r1, .int .i64 65535, .int .i64 65536, .int .i64 (-1)] 2)).trans o3).trans o4).alloc (.cells #[.int .i64 r4, .int .i64 0, .int .i64 900, .int .i64 901] 2)).trans o5)
  have B5 : Below w.heap.size w w5 := hb1.trans (P.toBelow hb1.size (by simp))
  go_wp2
  exact bodyPost_ret (v := .tuple #[.int .i64 r, .int .i64 r2]) (by simp [results, Try.results33, go_sem]) rfl ⟨r, r2, rfl, B5⟩
set_option maxHeartbeats 2000000 in
theorem spec_DrawWordAt (a : Option Addr) (cap : Nat) (zs : List Int) (w : World) (hr : Reads w .u8 (.slice a zs.length cap) zs) (hl : zs.length ≤ 1048576) (hb : ∀ i, 0 ≤ zs.getD i 0 ∧ zs.getD i 0 ≤ 255) :
    Calls Try.prog 38 #[.slice a zs.length cap] w fun e w' => ∃ p c xs r r2, e = .returned (.tuple #[.agg #[.slice p xs.length c], .int .i64 r, .int .i64 r2]) ∧ ReadsM w' (.slice p xs.length c) xs ∧ TapeB xs ∧ Below w.heap.size w w' := by
  have B0 : Below w.heap.size w (w.alloc (.cells #[.slice none 0 0] 42)) := (by repeat (first | exact Below.refl _ _ | refine Below.drew ?_ | refine below_drewN ?_ _ | refine Below.setCell ?_ (by first | omega | (simp; done) | (simp; omega)) _ | refine Below.alloc ?_ (by first | omega | (simp; done) | (simp; omega)) _))
  have Y0 := Blk.new w 42 #[.slice none 0 0]
  go_enter Try.func38, Try.ntmps38
  go_wp2_with fail
  refine (spec_l1Source a cap zs _ (hr.below B0) hl hb).mono ?_
  rintro e w1 ⟨rfl, s1, hb1⟩
  have hz : (w.alloc (.cells #[.slice none 0 0] 42)).heap.size = w.heap.size + 1 := by simp
  rw [hz] at s1 ⊢
  replace Y0 := Y0.keep hb1
  replace B0 : Below w.heap.size w w1 := B0.trans (hb1.mono B0.size)
  have l1 := s1.blk.lt
  clear hb1 hz
  go_wp2_with fail
  refine (spec_l2Bent _ a cap zs 0 _ s1 (by omega)).mono ?_
  rintro e w2 ⟨u, rfl, xs, hR, hB, ⟨j, hj, s2⟩, o2⟩
  obtain ⟨p, c, rfl, -⟩ := hR w2 [] (Off.refl _ _) (by simp)
  have HB : Hid (TapeB xs) := hB
  have HR : Hid (∀ W cs, Off cs w2 W → (∀ z ∈ cs, z < w1.heap.size) → ReadsM W (.slice p xs.length c) xs) := fun W cs o h => by
    obtain ⟨p', c', e, hm⟩ := hR W cs o h
    simp at e
    obtain ⟨rfl, rfl⟩ := e
    exact hm
  have Y2 := Y0.off o2 (by simp)
  have z2 := o2.size
  have B2 : Below w.heap.size w w2 := B0.trans (o2.toBelow B0.size (by simp))
  clear hR hB Y0 B0 o2 s1
  generalize hn : xs.length = n at *
  have HN : Hid (xs.length = n) := hn
  clear hn
  go_wp2_with fail
  refine (spec_l1Pick _ a cap zs (0 + j) _ [0, 1, 2, 3, 4, -1] [w2.heap.size] _ (s2.alloc _) (by omega) (Ints.lit w2 _ _ 6 rfl rfl (by omega)) (by simp) (by simp) (by simp; omega)).mono ?_
  rintro e w3 ⟨r, rfl, -, s3, o3⟩
  have Y3 := (Y2.alloc (.cells #[.int .i64 0, .int .i64 1, .int .i64 2, .int .i64 3, .int .i64 4, .int .i64 (-1)] 2)).off o3 (by simp)
  have O3 : Off [w.heap.size + 1] w2 w3 := ((Off.refl _ _).alloc _).trans o3
  have B3 : Below w.heap.size w w3 := B2.trans (O3.toBelow B2.size (by simp))
  have l3 := s3.blk.lt
  clear s2 Y2 B2 o3
  go_wp2_with fail
  refine (spec_l1Next _ a cap zs (0 + j + 1) 50 _ s3 (by omega) (by omega)).mono ?_
  rintro e w4 ⟨r4, rfl, -, s4, o4⟩
  go_wp2_with fail
  refine (spec_l1Next _ a cap zs (0 + j + 1 + 1) 50 _ s4 (by omega) (by omega)).mono ?_
  rintro e w5 ⟨r5, rfl, -, s5, o5⟩
  have l5 := s5.blk.lt
  go_wp2_with fail
  refine (spec_l1Pick _ a cap zs (0 + j + 1 + 1 + 1) _ [r4, r5, 9999, -1] [w5.heap.size] _ (s5.alloc _) (by omega) (Ints.lit w5 _ _ 4 rfl rfl (by omega)) (by simp) (by simp) (by simp; omega)).mono ?_
  rintro e w6 ⟨r2, rfl, -, s6, o6⟩
  have P6 : Off [w.heap.size + 1] w3 w6 := (((o4.trans o5).alloc (.cells #[.int .i64 r4, .int .i64 r5, .int .i64 9999, .int .i64 (-1)] 2)).trans o6)
  replace Y3 := Y3.off P6 (by simp)
  replace O3 := O3.trans P6
  replace B3 : Below w.heap.size w w6 := B3.trans (P6.toBelow B3.size (by simp))
  clear s3 s4 s5 s6 o4 o5 o6 P6
  have ya := Y3.at.1
  have yb := Y3.at.2
  have yl := Y3.lt
  have OO : Hid (∀ W, Off [w.heap.size] w6 W → ReadsM W (.slice p n c) xs ∧ Below w.heap.size w W) := fun W O => ⟨HR.out W [w.heap.size + 1, w.heap.size] ((O3.mono (by simp)).trans (O.mono (by simp))) (by simp; omega), B3.trans (O.toBelow B3.size (by simp))⟩
  go_wp2
  exact bodyPost_ret (v := .tuple #[.agg #[.slice p n c], .int .i64 r, .int .i64 r2]) (by simp [results, Try.results38, go_sem, ya]) rfl ⟨p, c, xs, r, r2, by rw [HN.out], by rw [HN.out]; exact (OO.out _ ((Off.refl _ _).setCell _ _ (by simp))).1, HB.out, (OO.out _ ((Off.refl _ _).setCell _ _ (by simp))).2⟩
end Go.Proofs.Ytadppilldijijaa
