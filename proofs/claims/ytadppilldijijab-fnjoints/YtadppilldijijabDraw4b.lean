/-
  Draws of chapter 4: what a net is made of.
-/
import Derived.Test.YtadppilldijijabDraw2
import Derived.Test.YtadppilldijijabDraw4
import Derived.Test.YtadppilldijijabJnX
namespace Go.Proofs.Ytadppilldijijab
open Go.ChangeShapes Go.WideShapes Go.ChangeAt Go.RowKit
set_option linter.unusedVariables false

set_option maxHeartbeats 4000000 in
theorem spec_DrawNewNet (a : Option Addr) (cap : Nat) (zs : List Int) (w : World) (hr : Reads w .u8 (.slice a zs.length cap) zs) (hl : zs.length ≤ 1048576) (hb : ∀ i, 0 ≤ zs.getD i 0 ∧ zs.getD i 0 ≤ 255) :
    Calls Try.prog 23 #[.slice a zs.length cap] w fun e w' => ∃ p c xs ch, e = .returned (.tuple #[.agg #[.slice p xs.length c], .agg #[.int .i64 (MCheat.xWho ch), .int .i64 ch.xAt, .int .i64 ch.xBy, .bool ch.xCry]]) ∧ ReadsM w' (.slice p xs.length c) xs ∧ TapeB xs ∧ Below w.heap.size w w' := by
  have B0 : Below w.heap.size w ((w.alloc (.cells #[.slice none 0 0] 40)).alloc (.cells #[.int .i64 0, .int .i64 0, .int .i64 0, .bool false] 42)) := (by repeat (first | exact Below.refl _ _ | refine Below.drew ?_ | refine below_drewN ?_ _ | refine Below.setCell ?_ (by first | omega | (simp; done) | (simp; omega)) _ | refine Below.alloc ?_ (by first | omega | (simp; done) | (simp; omega)) _))
  have Y0 := (Blk.new w 40 #[.slice none 0 0]).alloc (.cells #[.int .i64 0, .int .i64 0, .int .i64 0, .bool false] 42)
  have Z0 : Blk ((w.alloc (.cells #[.slice none 0 0] 40)).alloc (.cells #[.int .i64 0, .int .i64 0, .int .i64 0, .bool false] 42)) (w.heap.size + 1) 42 #[.int .i64 0, .int .i64 0, .int .i64 0, .bool false] := by simpa using Blk.new (w.alloc (.cells #[.slice none 0 0] 40)) 42 #[.int .i64 0, .int .i64 0, .int .i64 0, .bool false]
  go_enter Try.func23, Try.ntmps23
  go_wp2_with fail
  refine (spec_l1Source a cap zs _ (hr.below B0) hl hb).mono ?_
  rintro e w1 ⟨rfl, s1, hb1⟩
  have hz : ((w.alloc (.cells #[.slice none 0 0] 40)).alloc (.cells #[.int .i64 0, .int .i64 0, .int .i64 0, .bool false] 42)).heap.size = w.heap.size + 2 := by simp
  rw [hz] at s1 ⊢
  replace Y0 := Y0.keep hb1
  replace Z0 := Z0.keep hb1
  replace B0 : Below w.heap.size w w1 := B0.trans (hb1.mono B0.size)
  have l1 := s1.blk.lt
  clear hb1 hz
  go_wp2_with fail
  refine (spec_l2Bent _ a cap zs 0 _ s1 (by omega)).mono ?_
  rintro e w2 ⟨u, rfl, xs, hR, hB, ⟨j, hj, s2⟩, o2⟩
  obtain ⟨p, c, rfl, -⟩ := hR w2 [] (Off.refl _ _) (by simp)
  have HB : Hid (TapeB xs) := hB
  have HR : Hid (∀ W cs, Off cs w2 W → (∀ z ∈ cs, z < w1.heap.size ∨ w2.heap.size ≤ z) → ReadsM W (.slice p xs.length c) xs) := fun W cs o h => by
    have o' : Off (cs.filter (fun z => z < w1.heap.size)) w2 W := ⟨o.os, o.tape, o.output, o.size, fun i hi hn => o.block i hi (fun hm => by
      rcases h i hm with h' | h'
      · exact hn (List.mem_filter.2 ⟨hm, by simpa using h'⟩)
      · omega)⟩
    obtain ⟨p', c', e, hm⟩ := hR W _ o' (fun z hz => by have := (List.mem_filter.1 hz).2; simpa using this)
    simp at e
    obtain ⟨rfl, rfl⟩ := e
    exact hm
  have Y2 := Y0.off o2 (by simp)
  have Z2 := Z0.off o2 (by simp)
  have z2 := o2.size
  have B2 : Below w.heap.size w w2 := B0.trans (o2.toBelow B0.size (by simp))
  clear hR hB Y0 Z0 B0 o2 s1
  generalize hn : xs.length = n at *
  have HN : Hid (xs.length = n) := hn
  clear hn
  go_wp2_with fail
  have T3 := Blk.new w2 40 #[.slice p n c]
  refine (spec_l4DrawCheat _ a cap zs (0 + j) _ (s2.alloc _) (by omega)).mono ?_
  rintro e w3 ⟨ch, rfl, hD, s3, o3⟩
  have O3 : Off [w.heap.size + 2] w2 w3 := ((Off.refl _ _).alloc _).trans o3
  have Y3 := Y2.off O3 (by simp)
  have Z3 := Z2.off O3 (by simp)
  replace T3 := T3.off o3 (by simp; omega)
  have B3 : Below w.heap.size w w3 := B2.trans (O3.toBelow B2.size (by simp))
  have z3 := o3.size
  simp at z3
  clear Y2 Z2 B2 o3 s2 hD
  have C4 := Blk.new w3 42 #[.int .i64 ch.xWho, .int .i64 ch.xAt, .int .i64 ch.xBy, .bool ch.xCry]
  generalize hb2 : w2.heap.size = b5 at *
  go_wp2_with fail
  refine (spec_l1Chance _ a cap zs (0 + j + 4) 8 _ (s3.alloc _) (by omega) (by omega)).mono ?_
  rintro e w4 ⟨r4, rfl, s4, o4⟩
  have O4 : Off [w.heap.size + 2] w2 w4 := (O3.alloc _).trans o4
  have Y4 := (Y3.alloc (.cells #[.int .i64 ch.xWho, .int .i64 ch.xAt, .int .i64 ch.xBy, .bool ch.xCry] 42)).off o4 (by simp)
  have Z4 := (Z3.alloc (.cells #[.int .i64 ch.xWho, .int .i64 ch.xAt, .int .i64 ch.xBy, .bool ch.xCry] 42)).off o4 (by simp)
  have T4 := (T3.alloc (.cells #[.int .i64 ch.xWho, .int .i64 ch.xAt, .int .i64 ch.xBy, .bool ch.xCry] 42)).off o4 (by simp; omega)
  replace C4 := C4.off o4 (by simp; omega)
  have B4 : Below w.heap.size w w4 := (B3.alloc B3.size _).trans (o4.toBelow (B3.alloc B3.size _).size (by simp))
  generalize hb3 : w3.heap.size = b6 at *
  clear Y3 Z3 T3 B3 O3 o4 s3
  cases r4 with
  | false =>
    have ya := Y4.at.1
    have yb := Y4.at.2
    have yl := Y4.lt
    have za := Z4.at.1
    have zb := Z4.at.2
    have zl := Z4.lt
    have ta := T4.at.1
    have tl := T4.lt
    have ca := C4.at.1
    have cl := C4.lt
    have OO : Hid (∀ W, Off [w.heap.size, w.heap.size + 1] w4 W → ReadsM W (.slice p n c) xs ∧ Below w.heap.size w W) := fun W O => ⟨HR.out W [w.heap.size + 2, w.heap.size, w.heap.size + 1, b6] ((O4.mono (by simp)).trans (O.mono (by simp))) (by simp; omega), B4.trans (O.toBelow B4.size (by simp))⟩
    go_wp2_with fail
    go_region
    go_wp2
    exact bodyPost_ret (v := .tuple #[.agg #[.slice p n c], .agg #[.int .i64 ch.xWho, .int .i64 ch.xAt, .int .i64 ch.xBy, .bool ch.xCry]]) (by simp [results, Try.results23, go_sem, ya, za]) rfl ⟨p, c, xs, ch, by rw [HN.out], by rw [HN.out]; exact (OO.out _ ((((((Off.refl _ _).setCell _ _ (by simp)).setCell _ _ (by simp)).setCell _ _ (by simp)).setCell _ _ (by simp)).setCell _ _ (by simp)).drew).1, HB.out, (OO.out _ ((((((Off.refl _ _).setCell _ _ (by simp)).setCell _ _ (by simp)).setCell _ _ (by simp)).setCell _ _ (by simp)).setCell _ _ (by simp)).drew).2⟩
  | true =>
    have l4 := s4.blk.lt
    have cl0 := C4.lt
    go_wp2_with fail
    refine (spec_l1Pick _ a cap zs (0 + j + 4 + 1) _ [-1, 99999, 100000] [w4.heap.size] _ (s4.alloc _) (by omega) (Ints.lit w4 _ _ 3 rfl rfl (by omega)) (by simp) (by simp) (by simp; omega)).mono ?_
    rintro e w5 ⟨r5, rfl, -, s5, o5⟩
    have P5 : Off [w.heap.size + 2] w4 w5 := ((Off.refl _ _).alloc _).trans o5
    have C5 := C4.off P5 (by simp; omega)
    have ca := C5.at.1
    have cb := C5.at.2
    have cl := C5.lt
    have P6 : Off [w.heap.size + 2, b6] w4 (w5.setCell ⟨b6, 1, none⟩ (.int .i64 r5)) := (P5.mono (by simp)).setCell _ _ (by simp)
    have Y6 := Y4.off P6 (by simp; omega)
    have Z6 := Z4.off P6 (by simp; omega)
    have T6 := T4.off P6 (by simp; omega)
    have C6 : Blk (w5.setCell ⟨b6, 1, none⟩ (.int .i64 r5)) b6 42 #[.int .i64 ch.xWho, .int .i64 r5, .int .i64 ch.xBy, .bool ch.xCry] := Blk.of_eq (C5.set 1 _) (by simp)
    have B6 : Below w.heap.size w (w5.setCell ⟨b6, 1, none⟩ (.int .i64 r5)) := B4.trans (P6.toBelow B4.size (by simp; omega))
    have O6 : Off [w.heap.size + 2, b6] w2 (w5.setCell ⟨b6, 1, none⟩ (.int .i64 r5)) := (O4.mono (by simp)).trans P6
    clear P5 P6 Y4 Z4 T4 C4 C5 B4 O4 s4 s5 o5
    go_wp2_with fail
    clear ca cb cl
    generalize w5.setCell ⟨b6, 1, none⟩ (.int .i64 r5) = w6 at *
    have ya := Y6.at.1
    have yb := Y6.at.2
    have yl := Y6.lt
    have za := Z6.at.1
    have zb := Z6.at.2
    have zl := Z6.lt
    have ta := T6.at.1
    have tl := T6.lt
    have ca := C6.at.1
    have cl := C6.lt
    have OO : Hid (∀ W, Off [w.heap.size, w.heap.size + 1] w6 W → ReadsM W (.slice p n c) xs ∧ Below w.heap.size w W) := fun W O => ⟨HR.out W [w.heap.size + 2, w.heap.size, w.heap.size + 1, b6] ((O6.mono (by simp)).trans (O.mono (by simp))) (by simp; omega), B6.trans (O.toBelow B6.size (by simp))⟩
    go_wp2_with fail
    go_region
    go_wp2
    exact bodyPost_ret (v := .tuple #[.agg #[.slice p n c], .agg #[.int .i64 ch.xWho, .int .i64 r5, .int .i64 ch.xBy, .bool ch.xCry]]) (by simp [results, Try.results23, go_sem, ya, za]) rfl ⟨p, c, xs, { ch with xAt := r5 }, by rw [HN.out], by rw [HN.out]; exact (OO.out _ ((((((Off.refl _ _).setCell _ _ (by simp)).setCell _ _ (by simp)).setCell _ _ (by simp)).setCell _ _ (by simp)).setCell _ _ (by simp)).drew).1, HB.out, (OO.out _ ((((((Off.refl _ _).setCell _ _ (by simp)).setCell _ _ (by simp)).setCell _ _ (by simp)).setCell _ _ (by simp)).setCell _ _ (by simp)).drew).2⟩
end Go.Proofs.Ytadppilldijijab
