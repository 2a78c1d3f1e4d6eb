/-
  FnExactXorBits answers true at every net and all pairs of mirrors: the program's XorBits answers as its model does, writes into no argument, and each answer owns its memory.
-/
import Derived.Test.YtepobckhfodngalGreatXoI
import Derived.Test.YtepobckhfodngalGreatXoT
import Derived.Test.YtepobckhfodngalGreatOpen
import Derived.Test.YtepobckhfodngalGreatWhole
import Derived.Test.YtepobckhfodngalGreatRow
import Derived.Test.YtepobckhfodngalGreatOpen
import Derived.Test.YtepobckhfodngalGreatOpen
import Derived.Deep.RegionHeld3
import Derived.Deep.CutRange
import Derived.Deep.Cut
import Derived.Deep.RegionWith
import Derived.ShutString
import Derived.ChangeOld
import Derived.Below
namespace Go.Proofs.YtepobckhfodngalGreat.fnExactXorBits
open Go.ChangeShapes Go.WideShapes Go.ChangeAt Go.RowKit
open Go.ChangeMaps (open_string shut_string)
set_option linter.unusedVariables false

theorem own : ownKnob Tryz.prog.godebug = none := by kernel_rfl
theorem laidOut : laidOutB Tryz.prog = true := by kernel_rfl

set_option maxHeartbeats 8000000 in
set_option maxRecDepth 100000 in
theorem walk (v0 : Value) (x0 : MNet) (v1 : Value) (x1 : MMirror) (v2 : Value) (x2 : MMirror) (w : World) (r0 : RdNet w (v0) x0) (r1 : RdMirror w (v1) x1) (r2 : RdMirror w (v2) x2) :
    Calls Tryz.prog 4 #[v0, v1, v2] w fun e w' => e = .returned (.bool true) ∧ Below w.heap.size w w' := by
  obtain ⟨cs0, hv, RC0⟩ := r0.row
  subst hv
  obtain ⟨cs1, hv, RC1⟩ := r1.row
  subst hv
  obtain ⟨cs2, hv, RC2⟩ := r2.row
  subst hv
  by_cases s0 : (1048576 : Int) < (totNet x0 : Nat)
  · skip
    go_enter Tryz.func4, Tryz.ntmps4
    have X0 : Blk (((w.alloc (.cells cs0 31)).alloc (.cells cs1 33)).alloc (.cells cs2 33)) w.heap.size 31 cs0 := by simpa using (((Blk.new w 31 cs0).alloc (.cells cs1 33)).alloc (.cells cs2 33))
    have X1 : Blk (((w.alloc (.cells cs0 31)).alloc (.cells cs1 33)).alloc (.cells cs2 33)) (w.heap.size + 1) 33 cs1 := by simpa using ((Blk.new (w.alloc (.cells cs0 31)) 33 cs1).alloc (.cells cs2 33))
    have X2 : Blk (((w.alloc (.cells cs0 31)).alloc (.cells cs1 33)).alloc (.cells cs2 33)) (w.heap.size + 1 + 1) 33 cs2 := by simpa using (Blk.new ((w.alloc (.cells cs0 31)).alloc (.cells cs1 33)) 33 cs2)
    go_wp2_with (first | (refine wpList_load_blkg (by rfl) 31 _ rfl w.heap.size rfl X0 Tryz.underlying31 rfl (RC0.hi (by kernel_rfl)) ?_) | (refine wpList_load_blkg (by rfl) 33 _ rfl (w.heap.size + 1) rfl X1 Tryz.underlying33 rfl (RC1.hi (by kernel_rfl)) ?_) | (refine wpList_load_blkg (by rfl) 33 _ rfl (w.heap.size + 1 + 1) rfl X2 Tryz.underlying33 rfl (RC2.hi (by kernel_rfl)) ?_))
    refine Calls.at (F := fun V => Blk V w.heap.size 31 cs0 ∧ Blk V (w.heap.size + 1) 33 cs1 ∧ Blk V (w.heap.size + 1 + 1) 33 cs2 ∧ Below w.heap.size w V) ⟨X0, X1, X2, (by repeat (first | exact Below.refl _ _ | refine Below.drew ?_ | refine below_drewN ?_ _ | refine Below.setCell ?_ (by first | omega | (simp; done) | (simp; omega)) _ | refine Below.alloc ?_ (by first | omega | (simp; done) | (simp; omega)) _))⟩ ?_
    clear X0 X1 X2
    rintro V0 ⟨X0, X1, X2, B⟩
    refine (szNet_over _ x0 _ _ (by exact r0.below B) (by omega) (by omega) (by omega)).mono ?_
    rintro e w1 ⟨rfl, hb1⟩
    replace B := B.trans (hb1.mono B.size)
    go_wp2
    go_ret
    exact ⟨rfl, B⟩
  by_cases s1 : (1048576 - (totNet x0 : Nat) : Int) < (totMirror x1 : Nat)
  · skip
    go_enter Tryz.func4, Tryz.ntmps4
    have X0 : Blk (((w.alloc (.cells cs0 31)).alloc (.cells cs1 33)).alloc (.cells cs2 33)) w.heap.size 31 cs0 := by simpa using (((Blk.new w 31 cs0).alloc (.cells cs1 33)).alloc (.cells cs2 33))
    have X1 : Blk (((w.alloc (.cells cs0 31)).alloc (.cells cs1 33)).alloc (.cells cs2 33)) (w.heap.size + 1) 33 cs1 := by simpa using ((Blk.new (w.alloc (.cells cs0 31)) 33 cs1).alloc (.cells cs2 33))
    have X2 : Blk (((w.alloc (.cells cs0 31)).alloc (.cells cs1 33)).alloc (.cells cs2 33)) (w.heap.size + 1 + 1) 33 cs2 := by simpa using (Blk.new ((w.alloc (.cells cs0 31)).alloc (.cells cs1 33)) 33 cs2)
    go_wp2_with (first | (refine wpList_load_blkg (by rfl) 31 _ rfl w.heap.size rfl X0 Tryz.underlying31 rfl (RC0.hi (by kernel_rfl)) ?_) | (refine wpList_load_blkg (by rfl) 33 _ rfl (w.heap.size + 1) rfl X1 Tryz.underlying33 rfl (RC1.hi (by kernel_rfl)) ?_) | (refine wpList_load_blkg (by rfl) 33 _ rfl (w.heap.size + 1 + 1) rfl X2 Tryz.underlying33 rfl (RC2.hi (by kernel_rfl)) ?_))
    refine Calls.at (F := fun V => Blk V w.heap.size 31 cs0 ∧ Blk V (w.heap.size + 1) 33 cs1 ∧ Blk V (w.heap.size + 1 + 1) 33 cs2 ∧ Below w.heap.size w V) ⟨X0, X1, X2, (by repeat (first | exact Below.refl _ _ | refine Below.drew ?_ | refine below_drewN ?_ _ | refine Below.setCell ?_ (by first | omega | (simp; done) | (simp; omega)) _ | refine Below.alloc ?_ (by first | omega | (simp; done) | (simp; omega)) _))⟩ ?_
    clear X0 X1 X2
    rintro V0 ⟨X0, X1, X2, B⟩
    refine (szNet_fit _ x0 _ _ (by exact r0.below B) (by omega) (by omega) (by omega)).mono ?_
    rintro e w2 ⟨rfl, hb2⟩
    replace X0 := X0.keep hb2
    replace X1 := X1.keep hb2
    replace X2 := X2.keep hb2
    replace B := B.trans (hb2.mono B.size)
    clear hb2
    go_wp2_with (first | (refine wpList_load_blkg (by rfl) 31 _ rfl w.heap.size rfl X0 Tryz.underlying31 rfl (RC0.hi (by kernel_rfl)) ?_) | (refine wpList_load_blkg (by rfl) 33 _ rfl (w.heap.size + 1) rfl X1 Tryz.underlying33 rfl (RC1.hi (by kernel_rfl)) ?_) | (refine wpList_load_blkg (by rfl) 33 _ rfl (w.heap.size + 1 + 1) rfl X2 Tryz.underlying33 rfl (RC2.hi (by kernel_rfl)) ?_))
    refine (szMirror_over _ x1 _ _ (by exact r1.below B) (by omega) (by omega) (by omega)).mono ?_
    rintro e w3 ⟨rfl, hb3⟩
    replace B := B.trans (hb3.mono B.size)
    go_wp2
    go_ret
    exact ⟨rfl, B⟩
  by_cases s2 : (1048576 - (totNet x0 : Nat) - (totMirror x1 : Nat) : Int) < (totMirror x2 : Nat)
  · skip
    go_enter Tryz.func4, Tryz.ntmps4
    have X0 : Blk (((w.alloc (.cells cs0 31)).alloc (.cells cs1 33)).alloc (.cells cs2 33)) w.heap.size 31 cs0 := by simpa using (((Blk.new w 31 cs0).alloc (.cells cs1 33)).alloc (.cells cs2 33))
    have X1 : Blk (((w.alloc (.cells cs0 31)).alloc (.cells cs1 33)).alloc (.cells cs2 33)) (w.heap.size + 1) 33 cs1 := by simpa using ((Blk.new (w.alloc (.cells cs0 31)) 33 cs1).alloc (.cells cs2 33))
    have X2 : Blk (((w.alloc (.cells cs0 31)).alloc (.cells cs1 33)).alloc (.cells cs2 33)) (w.heap.size + 1 + 1) 33 cs2 := by simpa using (Blk.new ((w.alloc (.cells cs0 31)).alloc (.cells cs1 33)) 33 cs2)
    go_wp2_with (first | (refine wpList_load_blkg (by rfl) 31 _ rfl w.heap.size rfl X0 Tryz.underlying31 rfl (RC0.hi (by kernel_rfl)) ?_) | (refine wpList_load_blkg (by rfl) 33 _ rfl (w.heap.size + 1) rfl X1 Tryz.underlying33 rfl (RC1.hi (by kernel_rfl)) ?_) | (refine wpList_load_blkg (by rfl) 33 _ rfl (w.heap.size + 1 + 1) rfl X2 Tryz.underlying33 rfl (RC2.hi (by kernel_rfl)) ?_))
    refine Calls.at (F := fun V => Blk V w.heap.size 31 cs0 ∧ Blk V (w.heap.size + 1) 33 cs1 ∧ Blk V (w.heap.size + 1 + 1) 33 cs2 ∧ Below w.heap.size w V) ⟨X0, X1, X2, (by repeat (first | exact Below.refl _ _ | refine Below.drew ?_ | refine below_drewN ?_ _ | refine Below.setCell ?_ (by first | omega | (simp; done) | (simp; omega)) _ | refine Below.alloc ?_ (by first | omega | (simp; done) | (simp; omega)) _))⟩ ?_
    clear X0 X1 X2
    rintro V0 ⟨X0, X1, X2, B⟩
    refine (szNet_fit _ x0 _ _ (by exact r0.below B) (by omega) (by omega) (by omega)).mono ?_
    rintro e w4 ⟨rfl, hb4⟩
    replace X0 := X0.keep hb4
    replace X1 := X1.keep hb4
    replace X2 := X2.keep hb4
    replace B := B.trans (hb4.mono B.size)
    clear hb4
    go_wp2_with (first | (refine wpList_load_blkg (by rfl) 31 _ rfl w.heap.size rfl X0 Tryz.underlying31 rfl (RC0.hi (by kernel_rfl)) ?_) | (refine wpList_load_blkg (by rfl) 33 _ rfl (w.heap.size + 1) rfl X1 Tryz.underlying33 rfl (RC1.hi (by kernel_rfl)) ?_) | (refine wpList_load_blkg (by rfl) 33 _ rfl (w.heap.size + 1 + 1) rfl X2 Tryz.underlying33 rfl (RC2.hi (by kernel_rfl)) ?_))
    refine (szMirror_fit _ x1 _ _ (by exact r1.below B) (by omega) (by omega) (by omega)).mono ?_
    rintro e w5 ⟨rfl, hb5⟩
    replace X0 := X0.keep hb5
    replace X1 := X1.keep hb5
    replace X2 := X2.keep hb5
    replace B := B.trans (hb5.mono B.size)
    clear hb5
    go_wp2_with (first | (refine wpList_load_blkg (by rfl) 31 _ rfl w.heap.size rfl X0 Tryz.underlying31 rfl (RC0.hi (by kernel_rfl)) ?_) | (refine wpList_load_blkg (by rfl) 33 _ rfl (w.heap.size + 1) rfl X1 Tryz.underlying33 rfl (RC1.hi (by kernel_rfl)) ?_) | (refine wpList_load_blkg (by rfl) 33 _ rfl (w.heap.size + 1 + 1) rfl X2 Tryz.underlying33 rfl (RC2.hi (by kernel_rfl)) ?_))
    refine (szMirror_over _ x2 _ _ (by exact r2.below B) (by omega) (by omega) (by omega)).mono ?_
    rintro e w6 ⟨rfl, hb6⟩
    replace B := B.trans (hb6.mono B.size)
    go_wp2
    go_ret
    exact ⟨rfl, B⟩
  have hc0 := cntNet_le x0
  have hc1 := cntMirror_le x1
  have hc2 := cntMirror_le x2
  have KS : ∀ (V : World) (u0 : Value) (u1 : Value) (u2 : Value), RdNet V (u0) x0 → RdMirror V (u1) x1 → RdMirror V (u2) x2 → Calls Tryz.prog 19 #[u0, u1, u2] V fun e V' => ∃ u b0 b1 b2 b3, e = .returned u ∧ OwMixResult V' (u) (xorR (xorC x0 x1 x2) x0 x1 x2) b0 b1 b2 b3 ∧ (∀ y ∈ b0, V.heap.size ≤ y) ∧ (∀ y ∈ b1, V.heap.size ≤ y) ∧ (∀ y ∈ b2, V.heap.size ≤ y) ∧ (∀ y ∈ b3, V.heap.size ≤ y) ∧ Below V.heap.size V V' := fun V u0 u1 u2 h0 h1 h2 => spec_XorBits _ _ _ _ _ _ _ h0 (Fit.of_tot (by omega)) h1 h2
  have KI : ∀ (V : World) (u0 : Value) (u1 : Value) (u2 : Value), RdNet V (u0) x0 → RdMirror V (u1) x1 → RdMirror V (u2) x2 → Calls Tryz.prog 20 #[u0, u1, u2] V fun e V' => ∃ u b0 b1 b2 b3, e = .returned u ∧ OwMixResult V' (u) (xorR (xorC x0 x1 x2) x0 x1 x2) b0 b1 b2 b3 ∧ (∀ y ∈ b0, V.heap.size ≤ y) ∧ (∀ y ∈ b1, V.heap.size ≤ y) ∧ (∀ y ∈ b2, V.heap.size ≤ y) ∧ (∀ y ∈ b3, V.heap.size ≤ y) ∧ Below V.heap.size V V' := fun V u0 u1 u2 h0 h1 h2 => impl_XorBits _ _ _ _ _ _ _ h0 (Fit.of_tot (by omega)) h1 h2
  obtain ⟨r, HS, HI, hcr⟩ : ∃ r : MMixResult, Hid (∀ (V : World) (u0 : Value) (u1 : Value) (u2 : Value), RdNet V (u0) x0 → RdMirror V (u1) x1 → RdMirror V (u2) x2 → Calls Tryz.prog 19 #[u0, u1, u2] V fun e V' => ∃ u b0 b1 b2 b3, e = .returned u ∧ OwMixResult V' (u) r b0 b1 b2 b3 ∧ (∀ y ∈ b0, V.heap.size ≤ y) ∧ (∀ y ∈ b1, V.heap.size ≤ y) ∧ (∀ y ∈ b2, V.heap.size ≤ y) ∧ (∀ y ∈ b3, V.heap.size ≤ y) ∧ Below V.heap.size V V') ∧ Hid (∀ (V : World) (u0 : Value) (u1 : Value) (u2 : Value), RdNet V (u0) x0 → RdMirror V (u1) x1 → RdMirror V (u2) x2 → Calls Tryz.prog 20 #[u0, u1, u2] V fun e V' => ∃ u b0 b1 b2 b3, e = .returned u ∧ OwMixResult V' (u) r b0 b1 b2 b3 ∧ (∀ y ∈ b0, V.heap.size ≤ y) ∧ (∀ y ∈ b1, V.heap.size ≤ y) ∧ (∀ y ∈ b2, V.heap.size ≤ y) ∧ (∀ y ∈ b3, V.heap.size ≤ y) ∧ Below V.heap.size V V') ∧ cntMixResult r ≤ 268435456 := ⟨xorR (xorC x0 x1 x2) x0 x1 x2, KS, KI, xorR_cnt x0 x1 x2 (by omega)⟩
  clear KS KI
  go_enter Tryz.func4, Tryz.ntmps4
  have X0 : Blk (((w.alloc (.cells cs0 31)).alloc (.cells cs1 33)).alloc (.cells cs2 33)) w.heap.size 31 cs0 := by simpa using (((Blk.new w 31 cs0).alloc (.cells cs1 33)).alloc (.cells cs2 33))
  have X1 : Blk (((w.alloc (.cells cs0 31)).alloc (.cells cs1 33)).alloc (.cells cs2 33)) (w.heap.size + 1) 33 cs1 := by simpa using ((Blk.new (w.alloc (.cells cs0 31)) 33 cs1).alloc (.cells cs2 33))
  have X2 : Blk (((w.alloc (.cells cs0 31)).alloc (.cells cs1 33)).alloc (.cells cs2 33)) (w.heap.size + 1 + 1) 33 cs2 := by simpa using (Blk.new ((w.alloc (.cells cs0 31)).alloc (.cells cs1 33)) 33 cs2)
  go_wp2_with (first | (refine wpList_load_blkg (by rfl) 31 _ rfl w.heap.size rfl X0 Tryz.underlying31 rfl (RC0.hi (by kernel_rfl)) ?_) | (refine wpList_load_blkg (by rfl) 33 _ rfl (w.heap.size + 1) rfl X1 Tryz.underlying33 rfl (RC1.hi (by kernel_rfl)) ?_) | (refine wpList_load_blkg (by rfl) 33 _ rfl (w.heap.size + 1 + 1) rfl X2 Tryz.underlying33 rfl (RC2.hi (by kernel_rfl)) ?_))
  refine Calls.at (F := fun V => Blk V w.heap.size 31 cs0 ∧ Blk V (w.heap.size + 1) 33 cs1 ∧ Blk V (w.heap.size + 1 + 1) 33 cs2 ∧ Below w.heap.size w V) ⟨X0, X1, X2, (by repeat (first | exact Below.refl _ _ | refine Below.drew ?_ | refine below_drewN ?_ _ | refine Below.setCell ?_ (by first | omega | (simp; done) | (simp; omega)) _ | refine Below.alloc ?_ (by first | omega | (simp; done) | (simp; omega)) _))⟩ ?_
  clear X0 X1 X2
  rintro V0 ⟨X0, X1, X2, B⟩
  refine (szNet_fit _ x0 _ _ (by exact r0.below B) (by omega) (by omega) (by omega)).mono ?_
  rintro e w7 ⟨rfl, hb7⟩
  replace X0 := X0.keep hb7
  replace X1 := X1.keep hb7
  replace X2 := X2.keep hb7
  replace B := B.trans (hb7.mono B.size)
  (try replace NB := NB.keep hb7)
  clear hb7
  go_wp2_with (first | (refine wpList_load_blkg (by rfl) 31 _ rfl w.heap.size rfl X0 Tryz.underlying31 rfl (RC0.hi (by kernel_rfl)) ?_) | (refine wpList_load_blkg (by rfl) 33 _ rfl (w.heap.size + 1) rfl X1 Tryz.underlying33 rfl (RC1.hi (by kernel_rfl)) ?_) | (refine wpList_load_blkg (by rfl) 33 _ rfl (w.heap.size + 1 + 1) rfl X2 Tryz.underlying33 rfl (RC2.hi (by kernel_rfl)) ?_))
  refine (szMirror_fit _ x1 _ _ (by exact r1.below B) (by omega) (by omega) (by omega)).mono ?_
  rintro e w8 ⟨rfl, hb8⟩
  replace X0 := X0.keep hb8
  replace X1 := X1.keep hb8
  replace X2 := X2.keep hb8
  replace B := B.trans (hb8.mono B.size)
  (try replace NB := NB.keep hb8)
  clear hb8
  go_wp2_with (first | (refine wpList_load_blkg (by rfl) 31 _ rfl w.heap.size rfl X0 Tryz.underlying31 rfl (RC0.hi (by kernel_rfl)) ?_) | (refine wpList_load_blkg (by rfl) 33 _ rfl (w.heap.size + 1) rfl X1 Tryz.underlying33 rfl (RC1.hi (by kernel_rfl)) ?_) | (refine wpList_load_blkg (by rfl) 33 _ rfl (w.heap.size + 1 + 1) rfl X2 Tryz.underlying33 rfl (RC2.hi (by kernel_rfl)) ?_))
  refine (szMirror_fit _ x2 _ _ (by exact r2.below B) (by omega) (by omega) (by omega)).mono ?_
  rintro e w9 ⟨rfl, hb9⟩
  replace X0 := X0.keep hb9
  replace X1 := X1.keep hb9
  replace X2 := X2.keep hb9
  replace B := B.trans (hb9.mono B.size)
  (try replace NB := NB.keep hb9)
  clear hb9
  go_wp2_with fail
  (try simp only [Act.put])
  go_cut [8] from 17 (fun s wr => ∃ nz cs_w0 bw0_0 bw0_1 bw0_2 bw0_3, s = .pointer (some ⟨nz, 0, none⟩) ∧ Blk wr w.heap.size 31 cs0 ∧ Blk wr (w.heap.size + 1) 33 cs1 ∧ Blk wr (w.heap.size + 1 + 1) 33 cs2 ∧ Below w.heap.size w wr ∧ OwMixResult wr (.agg cs_w0) r bw0_0 bw0_1 bw0_2 bw0_3 ∧ Rw 19 cs_w0 ∧ Blk wr nz 43 cs_w0 ∧ w.heap.size ∉ (bw0_0 ++ (bw0_1 ++ (bw0_2 ++ bw0_3))) ∧ (w.heap.size + 1) ∉ (bw0_0 ++ (bw0_1 ++ (bw0_2 ++ bw0_3))) ∧ (w.heap.size + 1 + 1) ∉ (bw0_0 ++ (bw0_1 ++ (bw0_2 ++ bw0_3))) ∧ (∀ y ∈ (bw0_0 ++ (bw0_1 ++ (bw0_2 ++ bw0_3))), w.heap.size ≤ y) ∧ nz ∉ (bw0_0 ++ (bw0_1 ++ (bw0_2 ++ bw0_3))))
  case first =>
    refine wp_region_held (S := fun V => Blk V w.heap.size 31 cs0 ∧ Blk V (w.heap.size + 1) 33 cs1 ∧ Blk V (w.heap.size + 1 + 1) 33 cs2) (by kernel_rfl) ?_
    try (change wpAnyH _ _ _ _ _ _ _ _ (World.drew _))
    have hS : (fun V => Blk V w.heap.size 31 cs0 ∧ Blk V (w.heap.size + 1) 33 cs1 ∧ Blk V (w.heap.size + 1 + 1) 33 cs2) _ := ⟨X0.drew, X1.drew, X2.drew⟩
    replace X0 := X0.drew
    replace X1 := X1.drew
    replace X2 := X2.drew
    replace B := B.drew
    refine wpAnyH_take (i := 0) (v := _) rfl (by kernel_rfl) (by kernel_rfl) (by kernel_rfl) (fun _ _ _ h => h) (yieldsIf_load_mid (by rfl) _ _ rfl _ _ rfl _ _ (fun _ h => h.1.range) Tryz.underlying31 rfl (by simpa using (RC0.hi (by kernel_rfl)))) hS ?_
    (try simp only [List.getElem_toArray]); (try simp only [List.getElem_cons_succ]); (try simp only [List.getElem_cons_zero]); (try simp only [Act.put]); (try simp only [List.setIfInBounds_toArray]); (try simp only [List.set_cons_succ]); (try simp only [List.set_cons_zero])
    refine wpAnyH_take (i := 2) (v := _) rfl (by kernel_rfl) (by kernel_rfl) (by kernel_rfl) (fun _ _ _ h => h) (yieldsIf_load_mid (by rfl) _ _ rfl _ _ rfl _ _ (fun _ h => h.2.1.range) Tryz.underlying33 rfl (by simpa using (RC1.hi (by kernel_rfl)))) hS ?_
    (try simp only [List.getElem_toArray]); (try simp only [List.getElem_cons_succ]); (try simp only [List.getElem_cons_zero]); (try simp only [Act.put]); (try simp only [List.setIfInBounds_toArray]); (try simp only [List.set_cons_succ]); (try simp only [List.set_cons_zero])
    refine wpAnyH_take (i := 4) (v := _) rfl (by kernel_rfl) (by kernel_rfl) (by kernel_rfl) (fun _ _ _ h => h) (yieldsIf_load_mid (by rfl) _ _ rfl _ _ rfl _ _ (fun _ h => h.2.2.range) Tryz.underlying33 rfl (by simpa using (RC2.hi (by kernel_rfl)))) hS ?_
    (try simp only [List.getElem_toArray]); (try simp only [List.getElem_cons_succ]); (try simp only [List.getElem_cons_zero]); (try simp only [Act.put]); (try simp only [List.setIfInBounds_toArray]); (try simp only [List.set_cons_succ]); (try simp only [List.set_cons_zero])
    refine wpAnyH_ready (rs := [1, 7]) (by kernel_rfl) (by simp) ?_
    refine AllReadyH.cons (o := _) rfl (fun K hK => ?_) (AllReadyH.cons (o := _) rfl (fun K hK => ?_) AllReadyH.nil)
    · rw [if_pos (by rfl)]
      go_simp
      go_at_call 9
      refine (toNet_ow _ x0 _ (by exact r0.below B) (by omega)).mono ?_
      rintro e w10 ⟨u, bw0a0_0, bw0a0_1, bw0a0_2, rfl, w0a0, fw0a0_0, fw0a0_1, fw0a0_2, hb10⟩
      obtain ⟨cs_w0a0, e_w0a0, R_w0a0⟩ := w0a0.row
      subst e_w0a0
      have F_w0a0 : ∀ y ∈ (bw0a0_0 ++ (bw0a0_1 ++ bw0a0_2)), w9.drew.heap.size ≤ y := all_app fw0a0_0 (all_app fw0a0_1 fw0a0_2)
      (try have nbk_w0a0 : _ ∉ (bw0a0_0 ++ (bw0a0_1 ++ bw0a0_2)) := fun hm => Nat.not_lt.2 (F_w0a0 _ hm) NB.lt)
      have nb_X0_w0a0 : w.heap.size ∉ (bw0a0_0 ++ (bw0a0_1 ++ bw0a0_2)) := fun hm => Nat.not_lt.2 (F_w0a0 _ hm) X0.lt
      have nb_X1_w0a0 : (w.heap.size + 1) ∉ (bw0a0_0 ++ (bw0a0_1 ++ bw0a0_2)) := fun hm => Nat.not_lt.2 (F_w0a0 _ hm) X1.lt
      have nb_X2_w0a0 : (w.heap.size + 1 + 1) ∉ (bw0a0_0 ++ (bw0a0_1 ++ bw0a0_2)) := fun hm => Nat.not_lt.2 (F_w0a0 _ hm) X2.lt
      have G_w0a0 : ∀ y ∈ (bw0a0_0 ++ (bw0a0_1 ++ bw0a0_2)), w.heap.size ≤ y := fun y hy => Nat.le_trans B.size (F_w0a0 y hy)
      clear F_w0a0
      (try replace NB := NB.keep hb10)
      replace X0 := X0.keep hb10
      replace X1 := X1.keep hb10
      replace X2 := X2.keep hb10
      replace B := B.trans (hb10.mono B.size)
      clear hb10 fw0a0_0 fw0a0_1 fw0a0_2
      (try dsimp only)
      refine hK.out _ _ ⟨X0, X1, X2⟩ (fun hS => ?_)
      clear hK K
      (try simp only [List.getElem_toArray]); (try simp only [List.getElem_cons_succ]); (try simp only [List.getElem_cons_zero]); (try simp only [Act.put]); (try simp only [List.setIfInBounds_toArray]); (try simp only [List.set_cons_succ]); (try simp only [List.set_cons_zero])
      refine wpAnyH_ready (rs := [3, 7]) (by kernel_rfl) (by simp) ?_
      refine AllReadyH.cons (o := _) rfl (fun K hK => ?_) (AllReadyH.cons (o := _) rfl (fun K hK => ?_) AllReadyH.nil)
      · rw [if_pos (by rfl)]
        go_simp
        go_at_call 10
        refine (toMirror_ow _ x1 _ (by exact r1.below B) (by omega)).mono ?_
        rintro e w11 ⟨u, bw0a1_0, rfl, w0a1, fw0a1_0, hb11⟩
        obtain ⟨cs_w0a1, e_w0a1, R_w0a1⟩ := w0a1.row
        subst e_w0a1
        have F_w0a1 : ∀ y ∈ bw0a1_0, w10.heap.size ≤ y := fw0a1_0
        (try have nbk_w0a1 : _ ∉ bw0a1_0 := fun hm => Nat.not_lt.2 (F_w0a1 _ hm) NB.lt)
        have dj_w0a0_w0a1 : Dj (bw0a0_0 ++ (bw0a0_1 ++ bw0a0_2)) bw0a1_0 := fun y hy hm => Nat.not_lt.2 (F_w0a1 y hm) (w0a0.lt y hy)
        have nb_X0_w0a1 : w.heap.size ∉ bw0a1_0 := fun hm => Nat.not_lt.2 (F_w0a1 _ hm) X0.lt
        have nb_X1_w0a1 : (w.heap.size + 1) ∉ bw0a1_0 := fun hm => Nat.not_lt.2 (F_w0a1 _ hm) X1.lt
        have nb_X2_w0a1 : (w.heap.size + 1 + 1) ∉ bw0a1_0 := fun hm => Nat.not_lt.2 (F_w0a1 _ hm) X2.lt
        have G_w0a1 : ∀ y ∈ bw0a1_0, w.heap.size ≤ y := fun y hy => Nat.le_trans B.size (F_w0a1 y hy)
        clear F_w0a1
        (try replace NB := NB.keep hb11)
        replace X0 := X0.keep hb11
        replace X1 := X1.keep hb11
        replace X2 := X2.keep hb11
        replace w0a0 := w0a0.keep hb11
        replace B := B.trans (hb11.mono B.size)
        clear hb11 fw0a1_0
        (try dsimp only)
        refine hK.out _ _ ⟨X0, X1, X2⟩ (fun hS => ?_)
        clear hK K
        (try simp only [List.getElem_toArray]); (try simp only [List.getElem_cons_succ]); (try simp only [List.getElem_cons_zero]); (try simp only [Act.put]); (try simp only [List.setIfInBounds_toArray]); (try simp only [List.set_cons_succ]); (try simp only [List.set_cons_zero])
        refine wpAnyH_ready (rs := [5, 7]) (by kernel_rfl) (by simp) ?_
        refine AllReadyH.cons (o := _) rfl (fun K hK => ?_) (AllReadyH.cons (o := _) rfl (fun K hK => ?_) AllReadyH.nil)
        · rw [if_pos (by rfl)]
          go_simp
          go_at_call 10
          refine (toMirror_ow _ x2 _ (by exact r2.below B) (by omega)).mono ?_
          rintro e w12 ⟨u, bw0a2_0, rfl, w0a2, fw0a2_0, hb12⟩
          obtain ⟨cs_w0a2, e_w0a2, R_w0a2⟩ := w0a2.row
          subst e_w0a2
          have F_w0a2 : ∀ y ∈ bw0a2_0, w11.heap.size ≤ y := fw0a2_0
          (try have nbk_w0a2 : _ ∉ bw0a2_0 := fun hm => Nat.not_lt.2 (F_w0a2 _ hm) NB.lt)
          have dj_w0a0_w0a2 : Dj (bw0a0_0 ++ (bw0a0_1 ++ bw0a0_2)) bw0a2_0 := fun y hy hm => Nat.not_lt.2 (F_w0a2 y hm) (w0a0.lt y hy)
          have dj_w0a1_w0a2 : Dj bw0a1_0 bw0a2_0 := fun y hy hm => Nat.not_lt.2 (F_w0a2 y hm) (w0a1.lt y hy)
          have nb_X0_w0a2 : w.heap.size ∉ bw0a2_0 := fun hm => Nat.not_lt.2 (F_w0a2 _ hm) X0.lt
          have nb_X1_w0a2 : (w.heap.size + 1) ∉ bw0a2_0 := fun hm => Nat.not_lt.2 (F_w0a2 _ hm) X1.lt
          have nb_X2_w0a2 : (w.heap.size + 1 + 1) ∉ bw0a2_0 := fun hm => Nat.not_lt.2 (F_w0a2 _ hm) X2.lt
          have G_w0a2 : ∀ y ∈ bw0a2_0, w.heap.size ≤ y := fun y hy => Nat.le_trans B.size (F_w0a2 y hy)
          clear F_w0a2
          (try replace NB := NB.keep hb12)
          replace X0 := X0.keep hb12
          replace X1 := X1.keep hb12
          replace X2 := X2.keep hb12
          replace w0a0 := w0a0.keep hb12
          replace w0a1 := w0a1.keep hb12
          replace B := B.trans (hb12.mono B.size)
          clear hb12 fw0a2_0
          (try dsimp only)
          refine hK.out _ _ ⟨X0, X1, X2⟩ (fun hS => ?_)
          clear hK K
          (try simp only [List.getElem_toArray]); (try simp only [List.getElem_cons_succ]); (try simp only [List.getElem_cons_zero]); (try simp only [Act.put]); (try simp only [List.setIfInBounds_toArray]); (try simp only [List.set_cons_succ]); (try simp only [List.set_cons_zero])
          refine wpAnyH_ready (rs := [6, 7]) (by kernel_rfl) (by simp) ?_
          refine AllReadyH.cons (o := _) rfl (fun K hK => ?_) (AllReadyH.cons (o := _) rfl (fun K hK => ?_) AllReadyH.nil)
          · rw [if_pos (by rfl)]
            go_simp
            go_at_call 19
            refine (HS.out _ _ _ _ (by exact w0a0.rd) (by exact w0a1.rd) (by exact w0a2.rd)).mono ?_
            rintro e w13 ⟨u, bw0_0, bw0_1, bw0_2, bw0_3, rfl, w0, fw0_0, fw0_1, fw0_2, fw0_3, hb13⟩
            obtain ⟨cs_w0, e_w0, R_w0⟩ := w0.row
            subst e_w0
            have F_w0 : ∀ y ∈ (bw0_0 ++ (bw0_1 ++ (bw0_2 ++ bw0_3))), w12.heap.size ≤ y := all_app fw0_0 (all_app fw0_1 (all_app fw0_2 fw0_3))
            (try have nbk_w0 : _ ∉ (bw0_0 ++ (bw0_1 ++ (bw0_2 ++ bw0_3))) := fun hm => Nat.not_lt.2 (F_w0 _ hm) NB.lt)
            have dj_w0a0_w0 : Dj (bw0a0_0 ++ (bw0a0_1 ++ bw0a0_2)) (bw0_0 ++ (bw0_1 ++ (bw0_2 ++ bw0_3))) := fun y hy hm => Nat.not_lt.2 (F_w0 y hm) (w0a0.lt y hy)
            have dj_w0a1_w0 : Dj bw0a1_0 (bw0_0 ++ (bw0_1 ++ (bw0_2 ++ bw0_3))) := fun y hy hm => Nat.not_lt.2 (F_w0 y hm) (w0a1.lt y hy)
            have dj_w0a2_w0 : Dj bw0a2_0 (bw0_0 ++ (bw0_1 ++ (bw0_2 ++ bw0_3))) := fun y hy hm => Nat.not_lt.2 (F_w0 y hm) (w0a2.lt y hy)
            have nb_X0_w0 : w.heap.size ∉ (bw0_0 ++ (bw0_1 ++ (bw0_2 ++ bw0_3))) := fun hm => Nat.not_lt.2 (F_w0 _ hm) X0.lt
            have nb_X1_w0 : (w.heap.size + 1) ∉ (bw0_0 ++ (bw0_1 ++ (bw0_2 ++ bw0_3))) := fun hm => Nat.not_lt.2 (F_w0 _ hm) X1.lt
            have nb_X2_w0 : (w.heap.size + 1 + 1) ∉ (bw0_0 ++ (bw0_1 ++ (bw0_2 ++ bw0_3))) := fun hm => Nat.not_lt.2 (F_w0 _ hm) X2.lt
            have G_w0 : ∀ y ∈ (bw0_0 ++ (bw0_1 ++ (bw0_2 ++ bw0_3))), w.heap.size ≤ y := fun y hy => Nat.le_trans B.size (F_w0 y hy)
            clear F_w0
            (try replace NB := NB.keep hb13)
            replace X0 := X0.keep hb13
            replace X1 := X1.keep hb13
            replace X2 := X2.keep hb13
            replace w0a0 := w0a0.keep hb13
            replace w0a1 := w0a1.keep hb13
            replace w0a2 := w0a2.keep hb13
            replace B := B.trans (hb13.mono B.size)
            clear hb13 fw0_0 fw0_1 fw0_2 fw0_3
            (try dsimp only)
            refine hK.out _ _ ⟨X0, X1, X2⟩ (fun hS => ?_)
            clear hK K
            (try simp only [List.getElem_toArray]); (try simp only [List.getElem_cons_succ]); (try simp only [List.getElem_cons_zero]); (try simp only [Act.put]); (try simp only [List.setIfInBounds_toArray]); (try simp only [List.set_cons_succ]); (try simp only [List.set_cons_zero])
            refine wpAnyH_ready (rs := [7]) (by kernel_rfl) (by simp) ?_
            refine AllReadyH.cons (o := _) rfl (fun K hK => ?_) AllReadyH.nil
            rw [if_pos (by rfl)]
            go_simp
            have nbx_X0 : w.heap.size ≠ w13.heap.size := Nat.ne_of_lt X0.lt
            have nbx_X1 : (w.heap.size + 1) ≠ w13.heap.size := Nat.ne_of_lt X1.lt
            have nbx_X2 : (w.heap.size + 1 + 1) ≠ w13.heap.size := Nat.ne_of_lt X2.lt
            have nbk_w0a0 : w13.heap.size ∉ (bw0a0_0 ++ (bw0a0_1 ++ bw0a0_2)) := fun hm => Nat.lt_irrefl _ (w0a0.lt _ hm)
            have nbk_w0a1 : w13.heap.size ∉ bw0a1_0 := fun hm => Nat.lt_irrefl _ (w0a1.lt _ hm)
            have nbk_w0a2 : w13.heap.size ∉ bw0a2_0 := fun hm => Nat.lt_irrefl _ (w0a2.lt _ hm)
            have nbk_w0 : w13.heap.size ∉ (bw0_0 ++ (bw0_1 ++ (bw0_2 ++ bw0_3))) := fun hm => Nat.lt_irrefl _ (w0.lt _ hm)
            replace X0 := X0.alloc (.cells #[.int .i64 0, .int .i64 0, .slice none 0 0, .slice none 0 0, .slice none 0 0, .int .i64 0, .slice none 0 0, .int .i64 0, .int .i64 0, .int .i64 0, .bool false, .bool false, .int .i64 0, .int .i64 0, .int .i64 0, .int .i64 0, .int .i64 0, .int .i64 0, .int .i64 0] 43)
            replace X1 := X1.alloc (.cells #[.int .i64 0, .int .i64 0, .slice none 0 0, .slice none 0 0, .slice none 0 0, .int .i64 0, .slice none 0 0, .int .i64 0, .int .i64 0, .int .i64 0, .bool false, .bool false, .int .i64 0, .int .i64 0, .int .i64 0, .int .i64 0, .int .i64 0, .int .i64 0, .int .i64 0] 43)
            replace X2 := X2.alloc (.cells #[.int .i64 0, .int .i64 0, .slice none 0 0, .slice none 0 0, .slice none 0 0, .int .i64 0, .slice none 0 0, .int .i64 0, .int .i64 0, .int .i64 0, .bool false, .bool false, .int .i64 0, .int .i64 0, .int .i64 0, .int .i64 0, .int .i64 0, .int .i64 0, .int .i64 0] 43)
            replace w0a0 := w0a0.alloc (.cells #[.int .i64 0, .int .i64 0, .slice none 0 0, .slice none 0 0, .slice none 0 0, .int .i64 0, .slice none 0 0, .int .i64 0, .int .i64 0, .int .i64 0, .bool false, .bool false, .int .i64 0, .int .i64 0, .int .i64 0, .int .i64 0, .int .i64 0, .int .i64 0, .int .i64 0] 43)
            replace w0a1 := w0a1.alloc (.cells #[.int .i64 0, .int .i64 0, .slice none 0 0, .slice none 0 0, .slice none 0 0, .int .i64 0, .slice none 0 0, .int .i64 0, .int .i64 0, .int .i64 0, .bool false, .bool false, .int .i64 0, .int .i64 0, .int .i64 0, .int .i64 0, .int .i64 0, .int .i64 0, .int .i64 0] 43)
            replace w0a2 := w0a2.alloc (.cells #[.int .i64 0, .int .i64 0, .slice none 0 0, .slice none 0 0, .slice none 0 0, .int .i64 0, .slice none 0 0, .int .i64 0, .int .i64 0, .int .i64 0, .bool false, .bool false, .int .i64 0, .int .i64 0, .int .i64 0, .int .i64 0, .int .i64 0, .int .i64 0, .int .i64 0] 43)
            replace w0 := w0.alloc (.cells #[.int .i64 0, .int .i64 0, .slice none 0 0, .slice none 0 0, .slice none 0 0, .int .i64 0, .slice none 0 0, .int .i64 0, .int .i64 0, .int .i64 0, .bool false, .bool false, .int .i64 0, .int .i64 0, .int .i64 0, .int .i64 0, .int .i64 0, .int .i64 0, .int .i64 0] 43)
            have NB := Blk.new w13 43 #[.int .i64 0, .int .i64 0, .slice none 0 0, .slice none 0 0, .slice none 0 0, .int .i64 0, .slice none 0 0, .int .i64 0, .int .i64 0, .int .i64 0, .bool false, .bool false, .int .i64 0, .int .i64 0, .int .i64 0, .int .i64 0, .int .i64 0, .int .i64 0, .int .i64 0]
            have gNB : w.heap.size ≤ w13.heap.size := B.size
            replace B := B.alloc B.size (.cells #[.int .i64 0, .int .i64 0, .slice none 0 0, .slice none 0 0, .slice none 0 0, .int .i64 0, .slice none 0 0, .int .i64 0, .int .i64 0, .int .i64 0, .bool false, .bool false, .int .i64 0, .int .i64 0, .int .i64 0, .int .i64 0, .int .i64 0, .int .i64 0, .int .i64 0] 43)
            refine hK.out _ _ ⟨X0, X1, X2⟩ (fun hS => ?_)
            clear hK K
            (try simp only [List.getElem_toArray]); (try simp only [List.getElem_cons_succ]); (try simp only [List.getElem_cons_zero]); (try simp only [Act.put]); (try simp only [List.setIfInBounds_toArray]); (try simp only [List.set_cons_succ]); (try simp only [List.set_cons_zero])
            refine wpAnyH_ready (rs := [8]) (by kernel_rfl) (by simp) ?_
            refine AllReadyH.cons (o := _) rfl (fun K hK => ?_) AllReadyH.nil
            refine step_store_blk rfl 43 _ _ rfl w13.heap.size cs_w0 rfl rfl NB (by rw [R_w0.1]; rfl) (R_w0.hi (by kernel_rfl)) R_w0.2 ?_
            intro wE YE OE
            refine hK.out _ _ ⟨(X0.off OE (fun hm => nbx_X0 (List.mem_singleton.1 hm))), (X1.off OE (fun hm => nbx_X1 (List.mem_singleton.1 hm))), (X2.off OE (fun hm => nbx_X2 (List.mem_singleton.1 hm)))⟩ (fun hS => ?_)
            clear hK K
            (try simp only [List.getElem_toArray]); (try simp only [List.getElem_cons_succ]); (try simp only [List.getElem_cons_zero]); (try simp only [Act.put]); (try simp only [List.setIfInBounds_toArray]); (try simp only [List.set_cons_succ]); (try simp only [List.set_cons_zero])
            refine wpAnyH_done (by kernel_rfl) ?_ _
            have FIN : ∃ nz cs_w0 bw0_0 bw0_1 bw0_2 bw0_3, (Value.pointer (some ⟨w13.heap.size, 0, none⟩)) = .pointer (some ⟨nz, 0, none⟩) ∧ Blk wE w.heap.size 31 cs0 ∧ Blk wE (w.heap.size + 1) 33 cs1 ∧ Blk wE (w.heap.size + 1 + 1) 33 cs2 ∧ Below w.heap.size w wE ∧ OwMixResult wE (.agg cs_w0) r bw0_0 bw0_1 bw0_2 bw0_3 ∧ Rw 19 cs_w0 ∧ Blk wE nz 43 cs_w0 ∧ w.heap.size ∉ (bw0_0 ++ (bw0_1 ++ (bw0_2 ++ bw0_3))) ∧ (w.heap.size + 1) ∉ (bw0_0 ++ (bw0_1 ++ (bw0_2 ++ bw0_3))) ∧ (w.heap.size + 1 + 1) ∉ (bw0_0 ++ (bw0_1 ++ (bw0_2 ++ bw0_3))) ∧ (∀ y ∈ (bw0_0 ++ (bw0_1 ++ (bw0_2 ++ bw0_3))), w.heap.size ≤ y) ∧ nz ∉ (bw0_0 ++ (bw0_1 ++ (bw0_2 ++ bw0_3))) := ⟨w13.heap.size, cs_w0, bw0_0, bw0_1, bw0_2, bw0_3, rfl, X0.off OE (fun hm => nbx_X0 (List.mem_singleton.1 hm)), X1.off OE (fun hm => nbx_X1 (List.mem_singleton.1 hm)), X2.off OE (fun hm => nbx_X2 (List.mem_singleton.1 hm)), B.trans (OE.toBelow B.size (fun y hy => by rw [List.mem_singleton.1 hy]; exact gNB)), w0.off OE (fun y hy hm => nbk_w0 (by have e := List.mem_singleton.1 hm; subst e; exact hy)), R_w0, YE, nb_X0_w0, nb_X1_w0, nb_X2_w0, G_w0, nbk_w0⟩
            go_wp2
            go_meet
            case rel => exact FIN
          · rw [if_pos (by rfl)]
            go_simp
            have nbx_X0 : w.heap.size ≠ w12.heap.size := Nat.ne_of_lt X0.lt
            have nbx_X1 : (w.heap.size + 1) ≠ w12.heap.size := Nat.ne_of_lt X1.lt
            have nbx_X2 : (w.heap.size + 1 + 1) ≠ w12.heap.size := Nat.ne_of_lt X2.lt
            have nbk_w0a0 : w12.heap.size ∉ (bw0a0_0 ++ (bw0a0_1 ++ bw0a0_2)) := fun hm => Nat.lt_irrefl _ (w0a0.lt _ hm)
            have nbk_w0a1 : w12.heap.size ∉ bw0a1_0 := fun hm => Nat.lt_irrefl _ (w0a1.lt _ hm)
            have nbk_w0a2 : w12.heap.size ∉ bw0a2_0 := fun hm => Nat.lt_irrefl _ (w0a2.lt _ hm)
            replace X0 := X0.alloc (.cells #[.int .i64 0, .int .i64 0, .slice none 0 0, .slice none 0 0, .slice none 0 0, .int .i64 0, .slice none 0 0, .int .i64 0, .int .i64 0, .int .i64 0, .bool false, .bool false, .int .i64 0, .int .i64 0, .int .i64 0, .int .i64 0, .int .i64 0, .int .i64 0, .int .i64 0] 43)
            replace X1 := X1.alloc (.cells #[.int .i64 0, .int .i64 0, .slice none 0 0, .slice none 0 0, .slice none 0 0, .int .i64 0, .slice none 0 0, .int .i64 0, .int .i64 0, .int .i64 0, .bool false, .bool false, .int .i64 0, .int .i64 0, .int .i64 0, .int .i64 0, .int .i64 0, .int .i64 0, .int .i64 0] 43)
            replace X2 := X2.alloc (.cells #[.int .i64 0, .int .i64 0, .slice none 0 0, .slice none 0 0, .slice none 0 0, .int .i64 0, .slice none 0 0, .int .i64 0, .int .i64 0, .int .i64 0, .bool false, .bool false, .int .i64 0, .int .i64 0, .int .i64 0, .int .i64 0, .int .i64 0, .int .i64 0, .int .i64 0] 43)
            replace w0a0 := w0a0.alloc (.cells #[.int .i64 0, .int .i64 0, .slice none 0 0, .slice none 0 0, .slice none 0 0, .int .i64 0, .slice none 0 0, .int .i64 0, .int .i64 0, .int .i64 0, .bool false, .bool false, .int .i64 0, .int .i64 0, .int .i64 0, .int .i64 0, .int .i64 0, .int .i64 0, .int .i64 0] 43)
            replace w0a1 := w0a1.alloc (.cells #[.int .i64 0, .int .i64 0, .slice none 0 0, .slice none 0 0, .slice none 0 0, .int .i64 0, .slice none 0 0, .int .i64 0, .int .i64 0, .int .i64 0, .bool false, .bool false, .int .i64 0, .int .i64 0, .int .i64 0, .int .i64 0, .int .i64 0, .int .i64 0, .int .i64 0] 43)
            replace w0a2 := w0a2.alloc (.cells #[.int .i64 0, .int .i64 0, .slice none 0 0, .slice none 0 0, .slice none 0 0, .int .i64 0, .slice none 0 0, .int .i64 0, .int .i64 0, .int .i64 0, .bool false, .bool false, .int .i64 0, .int .i64 0, .int .i64 0, .int .i64 0, .int .i64 0, .int .i64 0, .int .i64 0] 43)
            have NB := Blk.new w12 43 #[.int .i64 0, .int .i64 0, .slice none 0 0, .slice none 0 0, .slice none 0 0, .int .i64 0, .slice none 0 0, .int .i64 0, .int .i64 0, .int .i64 0, .bool false, .bool false, .int .i64 0, .int .i64 0, .int .i64 0, .int .i64 0, .int .i64 0, .int .i64 0, .int .i64 0]
            have gNB : w.heap.size ≤ w12.heap.size := B.size
            replace B := B.alloc B.size (.cells #[.int .i64 0, .int .i64 0, .slice none 0 0, .slice none 0 0, .slice none 0 0, .int .i64 0, .slice none 0 0, .int .i64 0, .int .i64 0, .int .i64 0, .bool false, .bool false, .int .i64 0, .int .i64 0, .int .i64 0, .int .i64 0, .int .i64 0, .int .i64 0, .int .i64 0] 43)
            refine hK.out _ _ ⟨X0, X1, X2⟩ (fun hS => ?_)
            clear hK K
            (try simp only [List.getElem_toArray]); (try simp only [List.getElem_cons_succ]); (try simp only [List.getElem_cons_zero]); (try simp only [Act.put]); (try simp only [List.setIfInBounds_toArray]); (try simp only [List.set_cons_succ]); (try simp only [List.set_cons_zero])
            refine wpAnyH_ready (rs := [6]) (by kernel_rfl) (by simp) ?_
            refine AllReadyH.cons (o := _) rfl (fun K hK => ?_) AllReadyH.nil
            rw [if_pos (by rfl)]
            go_simp
            go_at_call 19
            refine (HS.out _ _ _ _ (by exact w0a0.rd) (by exact w0a1.rd) (by exact w0a2.rd)).mono ?_
            rintro e w14 ⟨u, bw0_0, bw0_1, bw0_2, bw0_3, rfl, w0, fw0_0, fw0_1, fw0_2, fw0_3, hb14⟩
            obtain ⟨cs_w0, e_w0, R_w0⟩ := w0.row
            subst e_w0
            have F_w0 : ∀ y ∈ (bw0_0 ++ (bw0_1 ++ (bw0_2 ++ bw0_3))), (w12.alloc (.cells #[.int .i64 0, .int .i64 0, .slice none 0 0, .slice none 0 0, .slice none 0 0, .int .i64 0, .slice none 0 0, .int .i64 0, .int .i64 0, .int .i64 0, .bool false, .bool false, .int .i64 0, .int .i64 0, .int .i64 0, .int .i64 0, .int .i64 0, .int .i64 0, .int .i64 0] 43)).heap.size ≤ y := all_app fw0_0 (all_app fw0_1 (all_app fw0_2 fw0_3))
            (try have nbk_w0 : _ ∉ (bw0_0 ++ (bw0_1 ++ (bw0_2 ++ bw0_3))) := fun hm => Nat.not_lt.2 (F_w0 _ hm) NB.lt)
            have dj_w0a0_w0 : Dj (bw0a0_0 ++ (bw0a0_1 ++ bw0a0_2)) (bw0_0 ++ (bw0_1 ++ (bw0_2 ++ bw0_3))) := fun y hy hm => Nat.not_lt.2 (F_w0 y hm) (w0a0.lt y hy)
            have dj_w0a1_w0 : Dj bw0a1_0 (bw0_0 ++ (bw0_1 ++ (bw0_2 ++ bw0_3))) := fun y hy hm => Nat.not_lt.2 (F_w0 y hm) (w0a1.lt y hy)
            have dj_w0a2_w0 : Dj bw0a2_0 (bw0_0 ++ (bw0_1 ++ (bw0_2 ++ bw0_3))) := fun y hy hm => Nat.not_lt.2 (F_w0 y hm) (w0a2.lt y hy)
            have nb_X0_w0 : w.heap.size ∉ (bw0_0 ++ (bw0_1 ++ (bw0_2 ++ bw0_3))) := fun hm => Nat.not_lt.2 (F_w0 _ hm) X0.lt
            have nb_X1_w0 : (w.heap.size + 1) ∉ (bw0_0 ++ (bw0_1 ++ (bw0_2 ++ bw0_3))) := fun hm => Nat.not_lt.2 (F_w0 _ hm) X1.lt
            have nb_X2_w0 : (w.heap.size + 1 + 1) ∉ (bw0_0 ++ (bw0_1 ++ (bw0_2 ++ bw0_3))) := fun hm => Nat.not_lt.2 (F_w0 _ hm) X2.lt
            have G_w0 : ∀ y ∈ (bw0_0 ++ (bw0_1 ++ (bw0_2 ++ bw0_3))), w.heap.size ≤ y := fun y hy => Nat.le_trans B.size (F_w0 y hy)
            clear F_w0
            (try replace NB := NB.keep hb14)
            replace X0 := X0.keep hb14
            replace X1 := X1.keep hb14
            replace X2 := X2.keep hb14
            replace w0a0 := w0a0.keep hb14
            replace w0a1 := w0a1.keep hb14
            replace w0a2 := w0a2.keep hb14
            replace B := B.trans (hb14.mono B.size)
            clear hb14 fw0_0 fw0_1 fw0_2 fw0_3
            (try dsimp only)
            refine hK.out _ _ ⟨X0, X1, X2⟩ (fun hS => ?_)
            clear hK K
            (try simp only [List.getElem_toArray]); (try simp only [List.getElem_cons_succ]); (try simp only [List.getElem_cons_zero]); (try simp only [Act.put]); (try simp only [List.setIfInBounds_toArray]); (try simp only [List.set_cons_succ]); (try simp only [List.set_cons_zero])
            refine wpAnyH_ready (rs := [8]) (by kernel_rfl) (by simp) ?_
            refine AllReadyH.cons (o := _) rfl (fun K hK => ?_) AllReadyH.nil
            refine step_store_blk rfl 43 _ _ rfl w12.heap.size cs_w0 rfl rfl NB (by rw [R_w0.1]; rfl) (R_w0.hi (by kernel_rfl)) R_w0.2 ?_
            intro wE YE OE
            refine hK.out _ _ ⟨(X0.off OE (fun hm => nbx_X0 (List.mem_singleton.1 hm))), (X1.off OE (fun hm => nbx_X1 (List.mem_singleton.1 hm))), (X2.off OE (fun hm => nbx_X2 (List.mem_singleton.1 hm)))⟩ (fun hS => ?_)
            clear hK K
            (try simp only [List.getElem_toArray]); (try simp only [List.getElem_cons_succ]); (try simp only [List.getElem_cons_zero]); (try simp only [Act.put]); (try simp only [List.setIfInBounds_toArray]); (try simp only [List.set_cons_succ]); (try simp only [List.set_cons_zero])
            refine wpAnyH_done (by kernel_rfl) ?_ _
            have FIN : ∃ nz cs_w0 bw0_0 bw0_1 bw0_2 bw0_3, (Value.pointer (some ⟨w12.heap.size, 0, none⟩)) = .pointer (some ⟨nz, 0, none⟩) ∧ Blk wE w.heap.size 31 cs0 ∧ Blk wE (w.heap.size + 1) 33 cs1 ∧ Blk wE (w.heap.size + 1 + 1) 33 cs2 ∧ Below w.heap.size w wE ∧ OwMixResult wE (.agg cs_w0) r bw0_0 bw0_1 bw0_2 bw0_3 ∧ Rw 19 cs_w0 ∧ Blk wE nz 43 cs_w0 ∧ w.heap.size ∉ (bw0_0 ++ (bw0_1 ++ (bw0_2 ++ bw0_3))) ∧ (w.heap.size + 1) ∉ (bw0_0 ++ (bw0_1 ++ (bw0_2 ++ bw0_3))) ∧ (w.heap.size + 1 + 1) ∉ (bw0_0 ++ (bw0_1 ++ (bw0_2 ++ bw0_3))) ∧ (∀ y ∈ (bw0_0 ++ (bw0_1 ++ (bw0_2 ++ bw0_3))), w.heap.size ≤ y) ∧ nz ∉ (bw0_0 ++ (bw0_1 ++ (bw0_2 ++ bw0_3))) := ⟨w12.heap.size, cs_w0, bw0_0, bw0_1, bw0_2, bw0_3, rfl, X0.off OE (fun hm => nbx_X0 (List.mem_singleton.1 hm)), X1.off OE (fun hm => nbx_X1 (List.mem_singleton.1 hm)), X2.off OE (fun hm => nbx_X2 (List.mem_singleton.1 hm)), B.trans (OE.toBelow B.size (fun y hy => by rw [List.mem_singleton.1 hy]; exact gNB)), w0.off OE (fun y hy hm => nbk_w0 (by have e := List.mem_singleton.1 hm; subst e; exact hy)), R_w0, YE, nb_X0_w0, nb_X1_w0, nb_X2_w0, G_w0, nbk_w0⟩
            go_wp2
            go_meet
            case rel => exact FIN
        · rw [if_pos (by rfl)]
          go_simp
          have nbx_X0 : w.heap.size ≠ w11.heap.size := Nat.ne_of_lt X0.lt
          have nbx_X1 : (w.heap.size + 1) ≠ w11.heap.size := Nat.ne_of_lt X1.lt
          have nbx_X2 : (w.heap.size + 1 + 1) ≠ w11.heap.size := Nat.ne_of_lt X2.lt
          have nbk_w0a0 : w11.heap.size ∉ (bw0a0_0 ++ (bw0a0_1 ++ bw0a0_2)) := fun hm => Nat.lt_irrefl _ (w0a0.lt _ hm)
          have nbk_w0a1 : w11.heap.size ∉ bw0a1_0 := fun hm => Nat.lt_irrefl _ (w0a1.lt _ hm)
          replace X0 := X0.alloc (.cells #[.int .i64 0, .int .i64 0, .slice none 0 0, .slice none 0 0, .slice none 0 0, .int .i64 0, .slice none 0 0, .int .i64 0, .int .i64 0, .int .i64 0, .bool false, .bool false, .int .i64 0, .int .i64 0, .int .i64 0, .int .i64 0, .int .i64 0, .int .i64 0, .int .i64 0] 43)
          replace X1 := X1.alloc (.cells #[.int .i64 0, .int .i64 0, .slice none 0 0, .slice none 0 0, .slice none 0 0, .int .i64 0, .slice none 0 0, .int .i64 0, .int .i64 0, .int .i64 0, .bool false, .bool false, .int .i64 0, .int .i64 0, .int .i64 0, .int .i64 0, .int .i64 0, .int .i64 0, .int .i64 0] 43)
          replace X2 := X2.alloc (.cells #[.int .i64 0, .int .i64 0, .slice none 0 0, .slice none 0 0, .slice none 0 0, .int .i64 0, .slice none 0 0, .int .i64 0, .int .i64 0, .int .i64 0, .bool false, .bool false, .int .i64 0, .int .i64 0, .int .i64 0, .int .i64 0, .int .i64 0, .int .i64 0, .int .i64 0] 43)
          replace w0a0 := w0a0.alloc (.cells #[.int .i64 0, .int .i64 0, .slice none 0 0, .slice none 0 0, .slice none 0 0, .int .i64 0, .slice none 0 0, .int .i64 0, .int .i64 0, .int .i64 0, .bool false, .bool false, .int .i64 0, .int .i64 0, .int .i64 0, .int .i64 0, .int .i64 0, .int .i64 0, .int .i64 0] 43)
          replace w0a1 := w0a1.alloc (.cells #[.int .i64 0, .int .i64 0, .slice none 0 0, .slice none 0 0, .slice none 0 0, .int .i64 0, .slice none 0 0, .int .i64 0, .int .i64 0, .int .i64 0, .bool false, .bool false, .int .i64 0, .int .i64 0, .int .i64 0, .int .i64 0, .int .i64 0, .int .i64 0, .int .i64 0] 43)
          have NB := Blk.new w11 43 #[.int .i64 0, .int .i64 0, .slice none 0 0, .slice none 0 0, .slice none 0 0, .int .i64 0, .slice none 0 0, .int .i64 0, .int .i64 0, .int .i64 0, .bool false, .bool false, .int .i64 0, .int .i64 0, .int .i64 0, .int .i64 0, .int .i64 0, .int .i64 0, .int .i64 0]
          have gNB : w.heap.size ≤ w11.heap.size := B.size
          replace B := B.alloc B.size (.cells #[.int .i64 0, .int .i64 0, .slice none 0 0, .slice none 0 0, .slice none 0 0, .int .i64 0, .slice none 0 0, .int .i64 0, .int .i64 0, .int .i64 0, .bool false, .bool false, .int .i64 0, .int .i64 0, .int .i64 0, .int .i64 0, .int .i64 0, .int .i64 0, .int .i64 0] 43)
          refine hK.out _ _ ⟨X0, X1, X2⟩ (fun hS => ?_)
          clear hK K
          (try simp only [List.getElem_toArray]); (try simp only [List.getElem_cons_succ]); (try simp only [List.getElem_cons_zero]); (try simp only [Act.put]); (try simp only [List.setIfInBounds_toArray]); (try simp only [List.set_cons_succ]); (try simp only [List.set_cons_zero])
          refine wpAnyH_ready (rs := [5]) (by kernel_rfl) (by simp) ?_
          refine AllReadyH.cons (o := _) rfl (fun K hK => ?_) AllReadyH.nil
          rw [if_pos (by rfl)]
          go_simp
          go_at_call 10
          refine (toMirror_ow _ x2 _ (by exact r2.below B) (by omega)).mono ?_
          rintro e w15 ⟨u, bw0a2_0, rfl, w0a2, fw0a2_0, hb15⟩
          obtain ⟨cs_w0a2, e_w0a2, R_w0a2⟩ := w0a2.row
          subst e_w0a2
          have F_w0a2 : ∀ y ∈ bw0a2_0, (w11.alloc (.cells #[.int .i64 0, .int .i64 0, .slice none 0 0, .slice none 0 0, .slice none 0 0, .int .i64 0, .slice none 0 0, .int .i64 0, .int .i64 0, .int .i64 0, .bool false, .bool false, .int .i64 0, .int .i64 0, .int .i64 0, .int .i64 0, .int .i64 0, .int .i64 0, .int .i64 0] 43)).heap.size ≤ y := fw0a2_0
          (try have nbk_w0a2 : _ ∉ bw0a2_0 := fun hm => Nat.not_lt.2 (F_w0a2 _ hm) NB.lt)
          have dj_w0a0_w0a2 : Dj (bw0a0_0 ++ (bw0a0_1 ++ bw0a0_2)) bw0a2_0 := fun y hy hm => Nat.not_lt.2 (F_w0a2 y hm) (w0a0.lt y hy)
          have dj_w0a1_w0a2 : Dj bw0a1_0 bw0a2_0 := fun y hy hm => Nat.not_lt.2 (F_w0a2 y hm) (w0a1.lt y hy)
          have nb_X0_w0a2 : w.heap.size ∉ bw0a2_0 := fun hm => Nat.not_lt.2 (F_w0a2 _ hm) X0.lt
          have nb_X1_w0a2 : (w.heap.size + 1) ∉ bw0a2_0 := fun hm => Nat.not_lt.2 (F_w0a2 _ hm) X1.lt
          have nb_X2_w0a2 : (w.heap.size + 1 + 1) ∉ bw0a2_0 := fun hm => Nat.not_lt.2 (F_w0a2 _ hm) X2.lt
          have G_w0a2 : ∀ y ∈ bw0a2_0, w.heap.size ≤ y := fun y hy => Nat.le_trans B.size (F_w0a2 y hy)
          clear F_w0a2
          (try replace NB := NB.keep hb15)
          replace X0 := X0.keep hb15
          replace X1 := X1.keep hb15
          replace X2 := X2.keep hb15
          replace w0a0 := w0a0.keep hb15
          replace w0a1 := w0a1.keep hb15
          replace B := B.trans (hb15.mono B.size)
          clear hb15 fw0a2_0
          (try dsimp only)
          refine hK.out _ _ ⟨X0, X1, X2⟩ (fun hS => ?_)
          clear hK K
          (try simp only [List.getElem_toArray]); (try simp only [List.getElem_cons_succ]); (try simp only [List.getElem_cons_zero]); (try simp only [Act.put]); (try simp only [List.setIfInBounds_toArray]); (try simp only [List.set_cons_succ]); (try simp only [List.set_cons_zero])
          refine wpAnyH_ready (rs := [6]) (by kernel_rfl) (by simp) ?_
          refine AllReadyH.cons (o := _) rfl (fun K hK => ?_) AllReadyH.nil
          rw [if_pos (by rfl)]
          go_simp
          go_at_call 19
          refine (HS.out _ _ _ _ (by exact w0a0.rd) (by exact w0a1.rd) (by exact w0a2.rd)).mono ?_
          rintro e w16 ⟨u, bw0_0, bw0_1, bw0_2, bw0_3, rfl, w0, fw0_0, fw0_1, fw0_2, fw0_3, hb16⟩
          obtain ⟨cs_w0, e_w0, R_w0⟩ := w0.row
          subst e_w0
          have F_w0 : ∀ y ∈ (bw0_0 ++ (bw0_1 ++ (bw0_2 ++ bw0_3))), w15.heap.size ≤ y := all_app fw0_0 (all_app fw0_1 (all_app fw0_2 fw0_3))
          (try have nbk_w0 : _ ∉ (bw0_0 ++ (bw0_1 ++ (bw0_2 ++ bw0_3))) := fun hm => Nat.not_lt.2 (F_w0 _ hm) NB.lt)
          have dj_w0a0_w0 : Dj (bw0a0_0 ++ (bw0a0_1 ++ bw0a0_2)) (bw0_0 ++ (bw0_1 ++ (bw0_2 ++ bw0_3))) := fun y hy hm => Nat.not_lt.2 (F_w0 y hm) (w0a0.lt y hy)
          have dj_w0a1_w0 : Dj bw0a1_0 (bw0_0 ++ (bw0_1 ++ (bw0_2 ++ bw0_3))) := fun y hy hm => Nat.not_lt.2 (F_w0 y hm) (w0a1.lt y hy)
          have dj_w0a2_w0 : Dj bw0a2_0 (bw0_0 ++ (bw0_1 ++ (bw0_2 ++ bw0_3))) := fun y hy hm => Nat.not_lt.2 (F_w0 y hm) (w0a2.lt y hy)
          have nb_X0_w0 : w.heap.size ∉ (bw0_0 ++ (bw0_1 ++ (bw0_2 ++ bw0_3))) := fun hm => Nat.not_lt.2 (F_w0 _ hm) X0.lt
          have nb_X1_w0 : (w.heap.size + 1) ∉ (bw0_0 ++ (bw0_1 ++ (bw0_2 ++ bw0_3))) := fun hm => Nat.not_lt.2 (F_w0 _ hm) X1.lt
          have nb_X2_w0 : (w.heap.size + 1 + 1) ∉ (bw0_0 ++ (bw0_1 ++ (bw0_2 ++ bw0_3))) := fun hm => Nat.not_lt.2 (F_w0 _ hm) X2.lt
          have G_w0 : ∀ y ∈ (bw0_0 ++ (bw0_1 ++ (bw0_2 ++ bw0_3))), w.heap.size ≤ y := fun y hy => Nat.le_trans B.size (F_w0 y hy)
          clear F_w0
          (try replace NB := NB.keep hb16)
          replace X0 := X0.keep hb16
          replace X1 := X1.keep hb16
          replace X2 := X2.keep hb16
          replace w0a0 := w0a0.keep hb16
          replace w0a1 := w0a1.keep hb16
          replace w0a2 := w0a2.keep hb16
          replace B := B.trans (hb16.mono B.size)
          clear hb16 fw0_0 fw0_1 fw0_2 fw0_3
          (try dsimp only)
          refine hK.out _ _ ⟨X0, X1, X2⟩ (fun hS => ?_)
          clear hK K
          (try simp only [List.getElem_toArray]); (try simp only [List.getElem_cons_succ]); (try simp only [List.getElem_cons_zero]); (try simp only [Act.put]); (try simp only [List.setIfInBounds_toArray]); (try simp only [List.set_cons_succ]); (try simp only [List.set_cons_zero])
          refine wpAnyH_ready (rs := [8]) (by kernel_rfl) (by simp) ?_
          refine AllReadyH.cons (o := _) rfl (fun K hK => ?_) AllReadyH.nil
          refine step_store_blk rfl 43 _ _ rfl w11.heap.size cs_w0 rfl rfl NB (by rw [R_w0.1]; rfl) (R_w0.hi (by kernel_rfl)) R_w0.2 ?_
          intro wE YE OE
          refine hK.out _ _ ⟨(X0.off OE (fun hm => nbx_X0 (List.mem_singleton.1 hm))), (X1.off OE (fun hm => nbx_X1 (List.mem_singleton.1 hm))), (X2.off OE (fun hm => nbx_X2 (List.mem_singleton.1 hm)))⟩ (fun hS => ?_)
          clear hK K
          (try simp only [List.getElem_toArray]); (try simp only [List.getElem_cons_succ]); (try simp only [List.getElem_cons_zero]); (try simp only [Act.put]); (try simp only [List.setIfInBounds_toArray]); (try simp only [List.set_cons_succ]); (try simp only [List.set_cons_zero])
          refine wpAnyH_done (by kernel_rfl) ?_ _
          have FIN : ∃ nz cs_w0 bw0_0 bw0_1 bw0_2 bw0_3, (Value.pointer (some ⟨w11.heap.size, 0, none⟩)) = .pointer (some ⟨nz, 0, none⟩) ∧ Blk wE w.heap.size 31 cs0 ∧ Blk wE (w.heap.size + 1) 33 cs1 ∧ Blk wE (w.heap.size + 1 + 1) 33 cs2 ∧ Below w.heap.size w wE ∧ OwMixResult wE (.agg cs_w0) r bw0_0 bw0_1 bw0_2 bw0_3 ∧ Rw 19 cs_w0 ∧ Blk wE nz 43 cs_w0 ∧ w.heap.size ∉ (bw0_0 ++ (bw0_1 ++ (bw0_2 ++ bw0_3))) ∧ (w.heap.size + 1) ∉ (bw0_0 ++ (bw0_1 ++ (bw0_2 ++ bw0_3))) ∧ (w.heap.size + 1 + 1) ∉ (bw0_0 ++ (bw0_1 ++ (bw0_2 ++ bw0_3))) ∧ (∀ y ∈ (bw0_0 ++ (bw0_1 ++ (bw0_2 ++ bw0_3))), w.heap.size ≤ y) ∧ nz ∉ (bw0_0 ++ (bw0_1 ++ (bw0_2 ++ bw0_3))) := ⟨w11.heap.size, cs_w0, bw0_0, bw0_1, bw0_2, bw0_3, rfl, X0.off OE (fun hm => nbx_X0 (List.mem_singleton.1 hm)), X1.off OE (fun hm => nbx_X1 (List.mem_singleton.1 hm)), X2.off OE (fun hm => nbx_X2 (List.mem_singleton.1 hm)), B.trans (OE.toBelow B.size (fun y hy => by rw [List.mem_singleton.1 hy]; exact gNB)), w0.off OE (fun y hy hm => nbk_w0 (by have e := List.mem_singleton.1 hm; subst e; exact hy)), R_w0, YE, nb_X0_w0, nb_X1_w0, nb_X2_w0, G_w0, nbk_w0⟩
          go_wp2
          go_meet
          case rel => exact FIN
      · rw [if_pos (by rfl)]
        go_simp
        have nbx_X0 : w.heap.size ≠ w10.heap.size := Nat.ne_of_lt X0.lt
        have nbx_X1 : (w.heap.size + 1) ≠ w10.heap.size := Nat.ne_of_lt X1.lt
        have nbx_X2 : (w.heap.size + 1 + 1) ≠ w10.heap.size := Nat.ne_of_lt X2.lt
        have nbk_w0a0 : w10.heap.size ∉ (bw0a0_0 ++ (bw0a0_1 ++ bw0a0_2)) := fun hm => Nat.lt_irrefl _ (w0a0.lt _ hm)
        replace X0 := X0.alloc (.cells #[.int .i64 0, .int .i64 0, .slice none 0 0, .slice none 0 0, .slice none 0 0, .int .i64 0, .slice none 0 0, .int .i64 0, .int .i64 0, .int .i64 0, .bool false, .bool false, .int .i64 0, .int .i64 0, .int .i64 0, .int .i64 0, .int .i64 0, .int .i64 0, .int .i64 0] 43)
        replace X1 := X1.alloc (.cells #[.int .i64 0, .int .i64 0, .slice none 0 0, .slice none 0 0, .slice none 0 0, .int .i64 0, .slice none 0 0, .int .i64 0, .int .i64 0, .int .i64 0, .bool false, .bool false, .int .i64 0, .int .i64 0, .int .i64 0, .int .i64 0, .int .i64 0, .int .i64 0, .int .i64 0] 43)
        replace X2 := X2.alloc (.cells #[.int .i64 0, .int .i64 0, .slice none 0 0, .slice none 0 0, .slice none 0 0, .int .i64 0, .slice none 0 0, .int .i64 0, .int .i64 0, .int .i64 0, .bool false, .bool false, .int .i64 0, .int .i64 0, .int .i64 0, .int .i64 0, .int .i64 0, .int .i64 0, .int .i64 0] 43)
        replace w0a0 := w0a0.alloc (.cells #[.int .i64 0, .int .i64 0, .slice none 0 0, .slice none 0 0, .slice none 0 0, .int .i64 0, .slice none 0 0, .int .i64 0, .int .i64 0, .int .i64 0, .bool false, .bool false, .int .i64 0, .int .i64 0, .int .i64 0, .int .i64 0, .int .i64 0, .int .i64 0, .int .i64 0] 43)
        have NB := Blk.new w10 43 #[.int .i64 0, .int .i64 0, .slice none 0 0, .slice none 0 0, .slice none 0 0, .int .i64 0, .slice none 0 0, .int .i64 0, .int .i64 0, .int .i64 0, .bool false, .bool false, .int .i64 0, .int .i64 0, .int .i64 0, .int .i64 0, .int .i64 0, .int .i64 0, .int .i64 0]
        have gNB : w.heap.size ≤ w10.heap.size := B.size
        replace B := B.alloc B.size (.cells #[.int .i64 0, .int .i64 0, .slice none 0 0, .slice none 0 0, .slice none 0 0, .int .i64 0, .slice none 0 0, .int .i64 0, .int .i64 0, .int .i64 0, .bool false, .bool false, .int .i64 0, .int .i64 0, .int .i64 0, .int .i64 0, .int .i64 0, .int .i64 0, .int .i64 0] 43)
        refine hK.out _ _ ⟨X0, X1, X2⟩ (fun hS => ?_)
        clear hK K
        (try simp only [List.getElem_toArray]); (try simp only [List.getElem_cons_succ]); (try simp only [List.getElem_cons_zero]); (try simp only [Act.put]); (try simp only [List.setIfInBounds_toArray]); (try simp only [List.set_cons_succ]); (try simp only [List.set_cons_zero])
        refine wpAnyH_ready (rs := [3]) (by kernel_rfl) (by simp) ?_
        refine AllReadyH.cons (o := _) rfl (fun K hK => ?_) AllReadyH.nil
        rw [if_pos (by rfl)]
        go_simp
        go_at_call 10
        refine (toMirror_ow _ x1 _ (by exact r1.below B) (by omega)).mono ?_
        rintro e w17 ⟨u, bw0a1_0, rfl, w0a1, fw0a1_0, hb17⟩
        obtain ⟨cs_w0a1, e_w0a1, R_w0a1⟩ := w0a1.row
        subst e_w0a1
        have F_w0a1 : ∀ y ∈ bw0a1_0, (w10.alloc (.cells #[.int .i64 0, .int .i64 0, .slice none 0 0, .slice none 0 0, .slice none 0 0, .int .i64 0, .slice none 0 0, .int .i64 0, .int .i64 0, .int .i64 0, .bool false, .bool false, .int .i64 0, .int .i64 0, .int .i64 0, .int .i64 0, .int .i64 0, .int .i64 0, .int .i64 0] 43)).heap.size ≤ y := fw0a1_0
        (try have nbk_w0a1 : _ ∉ bw0a1_0 := fun hm => Nat.not_lt.2 (F_w0a1 _ hm) NB.lt)
        have dj_w0a0_w0a1 : Dj (bw0a0_0 ++ (bw0a0_1 ++ bw0a0_2)) bw0a1_0 := fun y hy hm => Nat.not_lt.2 (F_w0a1 y hm) (w0a0.lt y hy)
        have nb_X0_w0a1 : w.heap.size ∉ bw0a1_0 := fun hm => Nat.not_lt.2 (F_w0a1 _ hm) X0.lt
        have nb_X1_w0a1 : (w.heap.size + 1) ∉ bw0a1_0 := fun hm => Nat.not_lt.2 (F_w0a1 _ hm) X1.lt
        have nb_X2_w0a1 : (w.heap.size + 1 + 1) ∉ bw0a1_0 := fun hm => Nat.not_lt.2 (F_w0a1 _ hm) X2.lt
        have G_w0a1 : ∀ y ∈ bw0a1_0, w.heap.size ≤ y := fun y hy => Nat.le_trans B.size (F_w0a1 y hy)
        clear F_w0a1
        (try replace NB := NB.keep hb17)
        replace X0 := X0.keep hb17
        replace X1 := X1.keep hb17
        replace X2 := X2.keep hb17
        replace w0a0 := w0a0.keep hb17
        replace B := B.trans (hb17.mono B.size)
        clear hb17 fw0a1_0
        (try dsimp only)
        refine hK.out _ _ ⟨X0, X1, X2⟩ (fun hS => ?_)
        clear hK K
        (try simp only [List.getElem_toArray]); (try simp only [List.getElem_cons_succ]); (try simp only [List.getElem_cons_zero]); (try simp only [Act.put]); (try simp only [List.setIfInBounds_toArray]); (try simp only [List.set_cons_succ]); (try simp only [List.set_cons_zero])
        refine wpAnyH_ready (rs := [5]) (by kernel_rfl) (by simp) ?_
        refine AllReadyH.cons (o := _) rfl (fun K hK => ?_) AllReadyH.nil
        rw [if_pos (by rfl)]
        go_simp
        go_at_call 10
        refine (toMirror_ow _ x2 _ (by exact r2.below B) (by omega)).mono ?_
        rintro e w18 ⟨u, bw0a2_0, rfl, w0a2, fw0a2_0, hb18⟩
        obtain ⟨cs_w0a2, e_w0a2, R_w0a2⟩ := w0a2.row
        subst e_w0a2
        have F_w0a2 : ∀ y ∈ bw0a2_0, w17.heap.size ≤ y := fw0a2_0
        (try have nbk_w0a2 : _ ∉ bw0a2_0 := fun hm => Nat.not_lt.2 (F_w0a2 _ hm) NB.lt)
        have dj_w0a0_w0a2 : Dj (bw0a0_0 ++ (bw0a0_1 ++ bw0a0_2)) bw0a2_0 := fun y hy hm => Nat.not_lt.2 (F_w0a2 y hm) (w0a0.lt y hy)
        have dj_w0a1_w0a2 : Dj bw0a1_0 bw0a2_0 := fun y hy hm => Nat.not_lt.2 (F_w0a2 y hm) (w0a1.lt y hy)
        have nb_X0_w0a2 : w.heap.size ∉ bw0a2_0 := fun hm => Nat.not_lt.2 (F_w0a2 _ hm) X0.lt
        have nb_X1_w0a2 : (w.heap.size + 1) ∉ bw0a2_0 := fun hm => Nat.not_lt.2 (F_w0a2 _ hm) X1.lt
        have nb_X2_w0a2 : (w.heap.size + 1 + 1) ∉ bw0a2_0 := fun hm => Nat.not_lt.2 (F_w0a2 _ hm) X2.lt
        have G_w0a2 : ∀ y ∈ bw0a2_0, w.heap.size ≤ y := fun y hy => Nat.le_trans B.size (F_w0a2 y hy)
        clear F_w0a2
        (try replace NB := NB.keep hb18)
        replace X0 := X0.keep hb18
        replace X1 := X1.keep hb18
        replace X2 := X2.keep hb18
        replace w0a0 := w0a0.keep hb18
        replace w0a1 := w0a1.keep hb18
        replace B := B.trans (hb18.mono B.size)
        clear hb18 fw0a2_0
        (try dsimp only)
        refine hK.out _ _ ⟨X0, X1, X2⟩ (fun hS => ?_)
        clear hK K
        (try simp only [List.getElem_toArray]); (try simp only [List.getElem_cons_succ]); (try simp only [List.getElem_cons_zero]); (try simp only [Act.put]); (try simp only [List.setIfInBounds_toArray]); (try simp only [List.set_cons_succ]); (try simp only [List.set_cons_zero])
        refine wpAnyH_ready (rs := [6]) (by kernel_rfl) (by simp) ?_
        refine AllReadyH.cons (o := _) rfl (fun K hK => ?_) AllReadyH.nil
        rw [if_pos (by rfl)]
        go_simp
        go_at_call 19
        refine (HS.out _ _ _ _ (by exact w0a0.rd) (by exact w0a1.rd) (by exact w0a2.rd)).mono ?_
        rintro e w19 ⟨u, bw0_0, bw0_1, bw0_2, bw0_3, rfl, w0, fw0_0, fw0_1, fw0_2, fw0_3, hb19⟩
        obtain ⟨cs_w0, e_w0, R_w0⟩ := w0.row
        subst e_w0
        have F_w0 : ∀ y ∈ (bw0_0 ++ (bw0_1 ++ (bw0_2 ++ bw0_3))), w18.heap.size ≤ y := all_app fw0_0 (all_app fw0_1 (all_app fw0_2 fw0_3))
        (try have nbk_w0 : _ ∉ (bw0_0 ++ (bw0_1 ++ (bw0_2 ++ bw0_3))) := fun hm => Nat.not_lt.2 (F_w0 _ hm) NB.lt)
        have dj_w0a0_w0 : Dj (bw0a0_0 ++ (bw0a0_1 ++ bw0a0_2)) (bw0_0 ++ (bw0_1 ++ (bw0_2 ++ bw0_3))) := fun y hy hm => Nat.not_lt.2 (F_w0 y hm) (w0a0.lt y hy)
        have dj_w0a1_w0 : Dj bw0a1_0 (bw0_0 ++ (bw0_1 ++ (bw0_2 ++ bw0_3))) := fun y hy hm => Nat.not_lt.2 (F_w0 y hm) (w0a1.lt y hy)
        have dj_w0a2_w0 : Dj bw0a2_0 (bw0_0 ++ (bw0_1 ++ (bw0_2 ++ bw0_3))) := fun y hy hm => Nat.not_lt.2 (F_w0 y hm) (w0a2.lt y hy)
        have nb_X0_w0 : w.heap.size ∉ (bw0_0 ++ (bw0_1 ++ (bw0_2 ++ bw0_3))) := fun hm => Nat.not_lt.2 (F_w0 _ hm) X0.lt
        have nb_X1_w0 : (w.heap.size + 1) ∉ (bw0_0 ++ (bw0_1 ++ (bw0_2 ++ bw0_3))) := fun hm => Nat.not_lt.2 (F_w0 _ hm) X1.lt
        have nb_X2_w0 : (w.heap.size + 1 + 1) ∉ (bw0_0 ++ (bw0_1 ++ (bw0_2 ++ bw0_3))) := fun hm => Nat.not_lt.2 (F_w0 _ hm) X2.lt
        have G_w0 : ∀ y ∈ (bw0_0 ++ (bw0_1 ++ (bw0_2 ++ bw0_3))), w.heap.size ≤ y := fun y hy => Nat.le_trans B.size (F_w0 y hy)
        clear F_w0
        (try replace NB := NB.keep hb19)
        replace X0 := X0.keep hb19
        replace X1 := X1.keep hb19
        replace X2 := X2.keep hb19
        replace w0a0 := w0a0.keep hb19
        replace w0a1 := w0a1.keep hb19
        replace w0a2 := w0a2.keep hb19
        replace B := B.trans (hb19.mono B.size)
        clear hb19 fw0_0 fw0_1 fw0_2 fw0_3
        (try dsimp only)
        refine hK.out _ _ ⟨X0, X1, X2⟩ (fun hS => ?_)
        clear hK K
        (try simp only [List.getElem_toArray]); (try simp only [List.getElem_cons_succ]); (try simp only [List.getElem_cons_zero]); (try simp only [Act.put]); (try simp only [List.setIfInBounds_toArray]); (try simp only [List.set_cons_succ]); (try simp only [List.set_cons_zero])
        refine wpAnyH_ready (rs := [8]) (by kernel_rfl) (by simp) ?_
        refine AllReadyH.cons (o := _) rfl (fun K hK => ?_) AllReadyH.nil
        refine step_store_blk rfl 43 _ _ rfl w10.heap.size cs_w0 rfl rfl NB (by rw [R_w0.1]; rfl) (R_w0.hi (by kernel_rfl)) R_w0.2 ?_
        intro wE YE OE
        refine hK.out _ _ ⟨(X0.off OE (fun hm => nbx_X0 (List.mem_singleton.1 hm))), (X1.off OE (fun hm => nbx_X1 (List.mem_singleton.1 hm))), (X2.off OE (fun hm => nbx_X2 (List.mem_singleton.1 hm)))⟩ (fun hS => ?_)
        clear hK K
        (try simp only [List.getElem_toArray]); (try simp only [List.getElem_cons_succ]); (try simp only [List.getElem_cons_zero]); (try simp only [Act.put]); (try simp only [List.setIfInBounds_toArray]); (try simp only [List.set_cons_succ]); (try simp only [List.set_cons_zero])
        refine wpAnyH_done (by kernel_rfl) ?_ _
        have FIN : ∃ nz cs_w0 bw0_0 bw0_1 bw0_2 bw0_3, (Value.pointer (some ⟨w10.heap.size, 0, none⟩)) = .pointer (some ⟨nz, 0, none⟩) ∧ Blk wE w.heap.size 31 cs0 ∧ Blk wE (w.heap.size + 1) 33 cs1 ∧ Blk wE (w.heap.size + 1 + 1) 33 cs2 ∧ Below w.heap.size w wE ∧ OwMixResult wE (.agg cs_w0) r bw0_0 bw0_1 bw0_2 bw0_3 ∧ Rw 19 cs_w0 ∧ Blk wE nz 43 cs_w0 ∧ w.heap.size ∉ (bw0_0 ++ (bw0_1 ++ (bw0_2 ++ bw0_3))) ∧ (w.heap.size + 1) ∉ (bw0_0 ++ (bw0_1 ++ (bw0_2 ++ bw0_3))) ∧ (w.heap.size + 1 + 1) ∉ (bw0_0 ++ (bw0_1 ++ (bw0_2 ++ bw0_3))) ∧ (∀ y ∈ (bw0_0 ++ (bw0_1 ++ (bw0_2 ++ bw0_3))), w.heap.size ≤ y) ∧ nz ∉ (bw0_0 ++ (bw0_1 ++ (bw0_2 ++ bw0_3))) := ⟨w10.heap.size, cs_w0, bw0_0, bw0_1, bw0_2, bw0_3, rfl, X0.off OE (fun hm => nbx_X0 (List.mem_singleton.1 hm)), X1.off OE (fun hm => nbx_X1 (List.mem_singleton.1 hm)), X2.off OE (fun hm => nbx_X2 (List.mem_singleton.1 hm)), B.trans (OE.toBelow B.size (fun y hy => by rw [List.mem_singleton.1 hy]; exact gNB)), w0.off OE (fun y hy hm => nbk_w0 (by have e := List.mem_singleton.1 hm; subst e; exact hy)), R_w0, YE, nb_X0_w0, nb_X1_w0, nb_X2_w0, G_w0, nbk_w0⟩
        go_wp2
        go_meet
        case rel => exact FIN
    · rw [if_pos (by rfl)]
      go_simp
      have nbx_X0 : w.heap.size ≠ w9.heap.size := Nat.ne_of_lt X0.lt
      have nbx_X1 : (w.heap.size + 1) ≠ w9.heap.size := Nat.ne_of_lt X1.lt
      have nbx_X2 : (w.heap.size + 1 + 1) ≠ w9.heap.size := Nat.ne_of_lt X2.lt
      replace X0 := X0.alloc (.cells #[.int .i64 0, .int .i64 0, .slice none 0 0, .slice none 0 0, .slice none 0 0, .int .i64 0, .slice none 0 0, .int .i64 0, .int .i64 0, .int .i64 0, .bool false, .bool false, .int .i64 0, .int .i64 0, .int .i64 0, .int .i64 0, .int .i64 0, .int .i64 0, .int .i64 0] 43)
      replace X1 := X1.alloc (.cells #[.int .i64 0, .int .i64 0, .slice none 0 0, .slice none 0 0, .slice none 0 0, .int .i64 0, .slice none 0 0, .int .i64 0, .int .i64 0, .int .i64 0, .bool false, .bool false, .int .i64 0, .int .i64 0, .int .i64 0, .int .i64 0, .int .i64 0, .int .i64 0, .int .i64 0] 43)
      replace X2 := X2.alloc (.cells #[.int .i64 0, .int .i64 0, .slice none 0 0, .slice none 0 0, .slice none 0 0, .int .i64 0, .slice none 0 0, .int .i64 0, .int .i64 0, .int .i64 0, .bool false, .bool false, .int .i64 0, .int .i64 0, .int .i64 0, .int .i64 0, .int .i64 0, .int .i64 0, .int .i64 0] 43)
      have NB := Blk.new w9.drew 43 #[.int .i64 0, .int .i64 0, .slice none 0 0, .slice none 0 0, .slice none 0 0, .int .i64 0, .slice none 0 0, .int .i64 0, .int .i64 0, .int .i64 0, .bool false, .bool false, .int .i64 0, .int .i64 0, .int .i64 0, .int .i64 0, .int .i64 0, .int .i64 0, .int .i64 0]
      have gNB : w.heap.size ≤ w9.heap.size := B.size
      replace B := B.alloc B.size (.cells #[.int .i64 0, .int .i64 0, .slice none 0 0, .slice none 0 0, .slice none 0 0, .int .i64 0, .slice none 0 0, .int .i64 0, .int .i64 0, .int .i64 0, .bool false, .bool false, .int .i64 0, .int .i64 0, .int .i64 0, .int .i64 0, .int .i64 0, .int .i64 0, .int .i64 0] 43)
      refine hK.out _ _ ⟨X0, X1, X2⟩ (fun hS => ?_)
      clear hK K
      (try simp only [List.getElem_toArray]); (try simp only [List.getElem_cons_succ]); (try simp only [List.getElem_cons_zero]); (try simp only [Act.put]); (try simp only [List.setIfInBounds_toArray]); (try simp only [List.set_cons_succ]); (try simp only [List.set_cons_zero])
      refine wpAnyH_ready (rs := [1]) (by kernel_rfl) (by simp) ?_
      refine AllReadyH.cons (o := _) rfl (fun K hK => ?_) AllReadyH.nil
      rw [if_pos (by rfl)]
      go_simp
      go_at_call 9
      refine (toNet_ow _ x0 _ (by exact r0.below B) (by omega)).mono ?_
      rintro e w20 ⟨u, bw0a0_0, bw0a0_1, bw0a0_2, rfl, w0a0, fw0a0_0, fw0a0_1, fw0a0_2, hb20⟩
      obtain ⟨cs_w0a0, e_w0a0, R_w0a0⟩ := w0a0.row
      subst e_w0a0
      have F_w0a0 : ∀ y ∈ (bw0a0_0 ++ (bw0a0_1 ++ bw0a0_2)), (w9.drew.alloc (.cells #[.int .i64 0, .int .i64 0, .slice none 0 0, .slice none 0 0, .slice none 0 0, .int .i64 0, .slice none 0 0, .int .i64 0, .int .i64 0, .int .i64 0, .bool false, .bool false, .int .i64 0, .int .i64 0, .int .i64 0, .int .i64 0, .int .i64 0, .int .i64 0, .int .i64 0] 43)).heap.size ≤ y := all_app fw0a0_0 (all_app fw0a0_1 fw0a0_2)
      (try have nbk_w0a0 : _ ∉ (bw0a0_0 ++ (bw0a0_1 ++ bw0a0_2)) := fun hm => Nat.not_lt.2 (F_w0a0 _ hm) NB.lt)
      have nb_X0_w0a0 : w.heap.size ∉ (bw0a0_0 ++ (bw0a0_1 ++ bw0a0_2)) := fun hm => Nat.not_lt.2 (F_w0a0 _ hm) X0.lt
      have nb_X1_w0a0 : (w.heap.size + 1) ∉ (bw0a0_0 ++ (bw0a0_1 ++ bw0a0_2)) := fun hm => Nat.not_lt.2 (F_w0a0 _ hm) X1.lt
      have nb_X2_w0a0 : (w.heap.size + 1 + 1) ∉ (bw0a0_0 ++ (bw0a0_1 ++ bw0a0_2)) := fun hm => Nat.not_lt.2 (F_w0a0 _ hm) X2.lt
      have G_w0a0 : ∀ y ∈ (bw0a0_0 ++ (bw0a0_1 ++ bw0a0_2)), w.heap.size ≤ y := fun y hy => Nat.le_trans B.size (F_w0a0 y hy)
      clear F_w0a0
      (try replace NB := NB.keep hb20)
      replace X0 := X0.keep hb20
      replace X1 := X1.keep hb20
      replace X2 := X2.keep hb20
      replace B := B.trans (hb20.mono B.size)
      clear hb20 fw0a0_0 fw0a0_1 fw0a0_2
      (try dsimp only)
      refine hK.out _ _ ⟨X0, X1, X2⟩ (fun hS => ?_)
      clear hK K
      (try simp only [List.getElem_toArray]); (try simp only [List.getElem_cons_succ]); (try simp only [List.getElem_cons_zero]); (try simp only [Act.put]); (try simp only [List.setIfInBounds_toArray]); (try simp only [List.set_cons_succ]); (try simp only [List.set_cons_zero])
      refine wpAnyH_ready (rs := [3]) (by kernel_rfl) (by simp) ?_
      refine AllReadyH.cons (o := _) rfl (fun K hK => ?_) AllReadyH.nil
      rw [if_pos (by rfl)]
      go_simp
      go_at_call 10
      refine (toMirror_ow _ x1 _ (by exact r1.below B) (by omega)).mono ?_
      rintro e w21 ⟨u, bw0a1_0, rfl, w0a1, fw0a1_0, hb21⟩
      obtain ⟨cs_w0a1, e_w0a1, R_w0a1⟩ := w0a1.row
      subst e_w0a1
      have F_w0a1 : ∀ y ∈ bw0a1_0, w20.heap.size ≤ y := fw0a1_0
      (try have nbk_w0a1 : _ ∉ bw0a1_0 := fun hm => Nat.not_lt.2 (F_w0a1 _ hm) NB.lt)
      have dj_w0a0_w0a1 : Dj (bw0a0_0 ++ (bw0a0_1 ++ bw0a0_2)) bw0a1_0 := fun y hy hm => Nat.not_lt.2 (F_w0a1 y hm) (w0a0.lt y hy)
      have nb_X0_w0a1 : w.heap.size ∉ bw0a1_0 := fun hm => Nat.not_lt.2 (F_w0a1 _ hm) X0.lt
      have nb_X1_w0a1 : (w.heap.size + 1) ∉ bw0a1_0 := fun hm => Nat.not_lt.2 (F_w0a1 _ hm) X1.lt
      have nb_X2_w0a1 : (w.heap.size + 1 + 1) ∉ bw0a1_0 := fun hm => Nat.not_lt.2 (F_w0a1 _ hm) X2.lt
      have G_w0a1 : ∀ y ∈ bw0a1_0, w.heap.size ≤ y := fun y hy => Nat.le_trans B.size (F_w0a1 y hy)
      clear F_w0a1
      (try replace NB := NB.keep hb21)
      replace X0 := X0.keep hb21
      replace X1 := X1.keep hb21
      replace X2 := X2.keep hb21
      replace w0a0 := w0a0.keep hb21
      replace B := B.trans (hb21.mono B.size)
      clear hb21 fw0a1_0
      (try dsimp only)
      refine hK.out _ _ ⟨X0, X1, X2⟩ (fun hS => ?_)
      clear hK K
      (try simp only [List.getElem_toArray]); (try simp only [List.getElem_cons_succ]); (try simp only [List.getElem_cons_zero]); (try simp only [Act.put]); (try simp only [List.setIfInBounds_toArray]); (try simp only [List.set_cons_succ]); (try simp only [List.set_cons_zero])
      refine wpAnyH_ready (rs := [5]) (by kernel_rfl) (by simp) ?_
      refine AllReadyH.cons (o := _) rfl (fun K hK => ?_) AllReadyH.nil
      rw [if_pos (by rfl)]
      go_simp
      go_at_call 10
      refine (toMirror_ow _ x2 _ (by exact r2.below B) (by omega)).mono ?_
      rintro e w22 ⟨u, bw0a2_0, rfl, w0a2, fw0a2_0, hb22⟩
      obtain ⟨cs_w0a2, e_w0a2, R_w0a2⟩ := w0a2.row
      subst e_w0a2
      have F_w0a2 : ∀ y ∈ bw0a2_0, w21.heap.size ≤ y := fw0a2_0
      (try have nbk_w0a2 : _ ∉ bw0a2_0 := fun hm => Nat.not_lt.2 (F_w0a2 _ hm) NB.lt)
      have dj_w0a0_w0a2 : Dj (bw0a0_0 ++ (bw0a0_1 ++ bw0a0_2)) bw0a2_0 := fun y hy hm => Nat.not_lt.2 (F_w0a2 y hm) (w0a0.lt y hy)
      have dj_w0a1_w0a2 : Dj bw0a1_0 bw0a2_0 := fun y hy hm => Nat.not_lt.2 (F_w0a2 y hm) (w0a1.lt y hy)
      have nb_X0_w0a2 : w.heap.size ∉ bw0a2_0 := fun hm => Nat.not_lt.2 (F_w0a2 _ hm) X0.lt
      have nb_X1_w0a2 : (w.heap.size + 1) ∉ bw0a2_0 := fun hm => Nat.not_lt.2 (F_w0a2 _ hm) X1.lt
      have nb_X2_w0a2 : (w.heap.size + 1 + 1) ∉ bw0a2_0 := fun hm => Nat.not_lt.2 (F_w0a2 _ hm) X2.lt
      have G_w0a2 : ∀ y ∈ bw0a2_0, w.heap.size ≤ y := fun y hy => Nat.le_trans B.size (F_w0a2 y hy)
      clear F_w0a2
      (try replace NB := NB.keep hb22)
      replace X0 := X0.keep hb22
      replace X1 := X1.keep hb22
      replace X2 := X2.keep hb22
      replace w0a0 := w0a0.keep hb22
      replace w0a1 := w0a1.keep hb22
      replace B := B.trans (hb22.mono B.size)
      clear hb22 fw0a2_0
      (try dsimp only)
      refine hK.out _ _ ⟨X0, X1, X2⟩ (fun hS => ?_)
      clear hK K
      (try simp only [List.getElem_toArray]); (try simp only [List.getElem_cons_succ]); (try simp only [List.getElem_cons_zero]); (try simp only [Act.put]); (try simp only [List.setIfInBounds_toArray]); (try simp only [List.set_cons_succ]); (try simp only [List.set_cons_zero])
      refine wpAnyH_ready (rs := [6]) (by kernel_rfl) (by simp) ?_
      refine AllReadyH.cons (o := _) rfl (fun K hK => ?_) AllReadyH.nil
      rw [if_pos (by rfl)]
      go_simp
      go_at_call 19
      refine (HS.out _ _ _ _ (by exact w0a0.rd) (by exact w0a1.rd) (by exact w0a2.rd)).mono ?_
      rintro e w23 ⟨u, bw0_0, bw0_1, bw0_2, bw0_3, rfl, w0, fw0_0, fw0_1, fw0_2, fw0_3, hb23⟩
      obtain ⟨cs_w0, e_w0, R_w0⟩ := w0.row
      subst e_w0
      have F_w0 : ∀ y ∈ (bw0_0 ++ (bw0_1 ++ (bw0_2 ++ bw0_3))), w22.heap.size ≤ y := all_app fw0_0 (all_app fw0_1 (all_app fw0_2 fw0_3))
      (try have nbk_w0 : _ ∉ (bw0_0 ++ (bw0_1 ++ (bw0_2 ++ bw0_3))) := fun hm => Nat.not_lt.2 (F_w0 _ hm) NB.lt)
      have dj_w0a0_w0 : Dj (bw0a0_0 ++ (bw0a0_1 ++ bw0a0_2)) (bw0_0 ++ (bw0_1 ++ (bw0_2 ++ bw0_3))) := fun y hy hm => Nat.not_lt.2 (F_w0 y hm) (w0a0.lt y hy)
      have dj_w0a1_w0 : Dj bw0a1_0 (bw0_0 ++ (bw0_1 ++ (bw0_2 ++ bw0_3))) := fun y hy hm => Nat.not_lt.2 (F_w0 y hm) (w0a1.lt y hy)
      have dj_w0a2_w0 : Dj bw0a2_0 (bw0_0 ++ (bw0_1 ++ (bw0_2 ++ bw0_3))) := fun y hy hm => Nat.not_lt.2 (F_w0 y hm) (w0a2.lt y hy)
      have nb_X0_w0 : w.heap.size ∉ (bw0_0 ++ (bw0_1 ++ (bw0_2 ++ bw0_3))) := fun hm => Nat.not_lt.2 (F_w0 _ hm) X0.lt
      have nb_X1_w0 : (w.heap.size + 1) ∉ (bw0_0 ++ (bw0_1 ++ (bw0_2 ++ bw0_3))) := fun hm => Nat.not_lt.2 (F_w0 _ hm) X1.lt
      have nb_X2_w0 : (w.heap.size + 1 + 1) ∉ (bw0_0 ++ (bw0_1 ++ (bw0_2 ++ bw0_3))) := fun hm => Nat.not_lt.2 (F_w0 _ hm) X2.lt
      have G_w0 : ∀ y ∈ (bw0_0 ++ (bw0_1 ++ (bw0_2 ++ bw0_3))), w.heap.size ≤ y := fun y hy => Nat.le_trans B.size (F_w0 y hy)
      clear F_w0
      (try replace NB := NB.keep hb23)
      replace X0 := X0.keep hb23
      replace X1 := X1.keep hb23
      replace X2 := X2.keep hb23
      replace w0a0 := w0a0.keep hb23
      replace w0a1 := w0a1.keep hb23
      replace w0a2 := w0a2.keep hb23
      replace B := B.trans (hb23.mono B.size)
      clear hb23 fw0_0 fw0_1 fw0_2 fw0_3
      (try dsimp only)
      refine hK.out _ _ ⟨X0, X1, X2⟩ (fun hS => ?_)
      clear hK K
      (try simp only [List.getElem_toArray]); (try simp only [List.getElem_cons_succ]); (try simp only [List.getElem_cons_zero]); (try simp only [Act.put]); (try simp only [List.setIfInBounds_toArray]); (try simp only [List.set_cons_succ]); (try simp only [List.set_cons_zero])
      refine wpAnyH_ready (rs := [8]) (by kernel_rfl) (by simp) ?_
      refine AllReadyH.cons (o := _) rfl (fun K hK => ?_) AllReadyH.nil
      refine step_store_blk rfl 43 _ _ rfl w9.heap.size cs_w0 rfl rfl NB (by rw [R_w0.1]; rfl) (R_w0.hi (by kernel_rfl)) R_w0.2 ?_
      intro wE YE OE
      refine hK.out _ _ ⟨(X0.off OE (fun hm => nbx_X0 (List.mem_singleton.1 hm))), (X1.off OE (fun hm => nbx_X1 (List.mem_singleton.1 hm))), (X2.off OE (fun hm => nbx_X2 (List.mem_singleton.1 hm)))⟩ (fun hS => ?_)
      clear hK K
      (try simp only [List.getElem_toArray]); (try simp only [List.getElem_cons_succ]); (try simp only [List.getElem_cons_zero]); (try simp only [Act.put]); (try simp only [List.setIfInBounds_toArray]); (try simp only [List.set_cons_succ]); (try simp only [List.set_cons_zero])
      refine wpAnyH_done (by kernel_rfl) ?_ _
      have FIN : ∃ nz cs_w0 bw0_0 bw0_1 bw0_2 bw0_3, (Value.pointer (some ⟨w9.heap.size, 0, none⟩)) = .pointer (some ⟨nz, 0, none⟩) ∧ Blk wE w.heap.size 31 cs0 ∧ Blk wE (w.heap.size + 1) 33 cs1 ∧ Blk wE (w.heap.size + 1 + 1) 33 cs2 ∧ Below w.heap.size w wE ∧ OwMixResult wE (.agg cs_w0) r bw0_0 bw0_1 bw0_2 bw0_3 ∧ Rw 19 cs_w0 ∧ Blk wE nz 43 cs_w0 ∧ w.heap.size ∉ (bw0_0 ++ (bw0_1 ++ (bw0_2 ++ bw0_3))) ∧ (w.heap.size + 1) ∉ (bw0_0 ++ (bw0_1 ++ (bw0_2 ++ bw0_3))) ∧ (w.heap.size + 1 + 1) ∉ (bw0_0 ++ (bw0_1 ++ (bw0_2 ++ bw0_3))) ∧ (∀ y ∈ (bw0_0 ++ (bw0_1 ++ (bw0_2 ++ bw0_3))), w.heap.size ≤ y) ∧ nz ∉ (bw0_0 ++ (bw0_1 ++ (bw0_2 ++ bw0_3))) := ⟨w9.heap.size, cs_w0, bw0_0, bw0_1, bw0_2, bw0_3, rfl, X0.off OE (fun hm => nbx_X0 (List.mem_singleton.1 hm)), X1.off OE (fun hm => nbx_X1 (List.mem_singleton.1 hm)), X2.off OE (fun hm => nbx_X2 (List.mem_singleton.1 hm)), B.trans (OE.toBelow B.size (fun y hy => by rw [List.mem_singleton.1 hy]; exact gNB)), w0.off OE (fun y hy hm => nbk_w0 (by have e := List.mem_singleton.1 hm; subst e; exact hy)), R_w0, YE, nb_X0_w0, nb_X1_w0, nb_X2_w0, G_w0, nbk_w0⟩
      go_wp2
      go_meet
      case rel => exact FIN
  case rest =>
    clear X0 X1 X2 B 
    obtain ⟨nbw0, cs_w0, bw0_0, bw0_1, bw0_2, bw0_3, rfl, X0, X1, X2, B, w0, R_w0, Yw0, nb_X0_w0, nb_X1_w0, nb_X2_w0, G_w0, nb_Yw0_w0⟩ := hcut
    obtain ⟨wc24, ewc⟩ : ∃ x : World, x = wc := ⟨_, rfl⟩
    subst ewc
    go_wp2_with (first | (refine wpList_load_blkg (by rfl) 31 _ rfl w.heap.size rfl X0 Tryz.underlying31 rfl (RC0.hi (by kernel_rfl)) ?_) | (refine wpList_load_blkg (by rfl) 33 _ rfl (w.heap.size + 1) rfl X1 Tryz.underlying33 rfl (RC1.hi (by kernel_rfl)) ?_) | (refine wpList_load_blkg (by rfl) 33 _ rfl (w.heap.size + 1 + 1) rfl X2 Tryz.underlying33 rfl (RC2.hi (by kernel_rfl)) ?_) | (refine wpList_load_blkg (by rfl) 43 _ rfl nbw0 rfl Yw0 Tryz.underlying43 rfl (R_w0.hi (by kernel_rfl)) ?_))
    refine (toNet_ow _ x0 _ (by exact r0.below B) (by omega)).mono ?_
    rintro e w25 ⟨u, bxc0_0, bxc0_1, bxc0_2, rfl, xc0, fxc0_0, fxc0_1, fxc0_2, hb25⟩
    obtain ⟨cs_xc0, e_xc0, R_xc0⟩ := xc0.row
    subst e_xc0
    have F_xc0 : ∀ y ∈ (bxc0_0 ++ (bxc0_1 ++ bxc0_2)), wc24.heap.size ≤ y := all_app fxc0_0 (all_app fxc0_1 fxc0_2)
    (try have nbk_xc0 : _ ∉ (bxc0_0 ++ (bxc0_1 ++ bxc0_2)) := fun hm => Nat.not_lt.2 (F_xc0 _ hm) NB.lt)
    have dj_w0_xc0 : Dj (bw0_0 ++ (bw0_1 ++ (bw0_2 ++ bw0_3))) (bxc0_0 ++ (bxc0_1 ++ bxc0_2)) := fun y hy hm => Nat.not_lt.2 (F_xc0 y hm) (w0.lt y hy)
    have nb_X0_xc0 : w.heap.size ∉ (bxc0_0 ++ (bxc0_1 ++ bxc0_2)) := fun hm => Nat.not_lt.2 (F_xc0 _ hm) X0.lt
    have nb_X1_xc0 : (w.heap.size + 1) ∉ (bxc0_0 ++ (bxc0_1 ++ bxc0_2)) := fun hm => Nat.not_lt.2 (F_xc0 _ hm) X1.lt
    have nb_X2_xc0 : (w.heap.size + 1 + 1) ∉ (bxc0_0 ++ (bxc0_1 ++ bxc0_2)) := fun hm => Nat.not_lt.2 (F_xc0 _ hm) X2.lt
    have nb_Yw0_xc0 : nbw0 ∉ (bxc0_0 ++ (bxc0_1 ++ bxc0_2)) := fun hm => Nat.not_lt.2 (F_xc0 _ hm) Yw0.lt
    have G_xc0 : ∀ y ∈ (bxc0_0 ++ (bxc0_1 ++ bxc0_2)), w.heap.size ≤ y := fun y hy => Nat.le_trans B.size (F_xc0 y hy)
    clear F_xc0
    replace X0 := X0.keep hb25
    replace X1 := X1.keep hb25
    replace X2 := X2.keep hb25
    replace Yw0 := Yw0.keep hb25
    replace w0 := w0.keep hb25
    replace B := B.trans (hb25.mono B.size)
    (try replace NB := NB.keep hb25)
    clear hb25 fxc0_0 fxc0_1 fxc0_2
    go_wp2_with (first | (refine wpList_store_blk rfl 41 _ _ rfl w25.heap.size cs_xc0 rfl rfl (Blk.new _ _ _) (by rw [R_xc0.1]; rfl) (R_xc0.hi (by kernel_rfl)) R_xc0.2 ?_; intro w26 Z0 o26; have nb_Z0_w0 : w25.heap.size ∉ (bw0_0 ++ (bw0_1 ++ (bw0_2 ++ bw0_3))) := (fun hm => Nat.lt_irrefl _ (w0.lt _ hm)); have nb_Z0_xc0 : w25.heap.size ∉ (bxc0_0 ++ (bxc0_1 ++ bxc0_2)) := (fun hm => Nat.lt_irrefl _ (xc0.lt _ hm)); replace X0 := (X0.alloc _).off o26 (nbnew X0.lt); replace X1 := (X1.alloc _).off o26 (nbnew X1.lt); replace X2 := (X2.alloc _).off o26 (nbnew X2.lt); replace Yw0 := (Yw0.alloc _).off o26 (nbnew Yw0.lt); replace w0 := (w0.alloc _).off o26 (djnew w0.lt); replace xc0 := (xc0.alloc _).off o26 (djnew xc0.lt); replace B := below_past B o26; clear o26) | (refine wpList_load_blkg (by rfl) 31 _ rfl w.heap.size rfl X0 Tryz.underlying31 rfl (RC0.hi (by kernel_rfl)) ?_) | (refine wpList_load_blkg (by rfl) 33 _ rfl (w.heap.size + 1) rfl X1 Tryz.underlying33 rfl (RC1.hi (by kernel_rfl)) ?_) | (refine wpList_load_blkg (by rfl) 33 _ rfl (w.heap.size + 1 + 1) rfl X2 Tryz.underlying33 rfl (RC2.hi (by kernel_rfl)) ?_) | (refine wpList_load_blkg (by rfl) 43 _ rfl nbw0 rfl Yw0 Tryz.underlying43 rfl (R_w0.hi (by kernel_rfl)) ?_) | (refine wpList_load_blkg (by rfl) 41 _ rfl w25.heap.size rfl Z0 Tryz.underlying41 rfl (R_xc0.hi (by kernel_rfl)) ?_))
    refine (toMirror_ow _ x1 _ (by exact r1.below B) (by omega)).mono ?_
    rintro e w27 ⟨u, bxc1_0, rfl, xc1, fxc1_0, hb27⟩
    obtain ⟨cs_xc1, e_xc1, R_xc1⟩ := xc1.row
    subst e_xc1
    have F_xc1 : ∀ y ∈ bxc1_0, w26.heap.size ≤ y := fxc1_0
    (try have nbk_xc1 : _ ∉ bxc1_0 := fun hm => Nat.not_lt.2 (F_xc1 _ hm) NB.lt)
    have dj_w0_xc1 : Dj (bw0_0 ++ (bw0_1 ++ (bw0_2 ++ bw0_3))) bxc1_0 := fun y hy hm => Nat.not_lt.2 (F_xc1 y hm) (w0.lt y hy)
    have dj_xc0_xc1 : Dj (bxc0_0 ++ (bxc0_1 ++ bxc0_2)) bxc1_0 := fun y hy hm => Nat.not_lt.2 (F_xc1 y hm) (xc0.lt y hy)
    have nb_X0_xc1 : w.heap.size ∉ bxc1_0 := fun hm => Nat.not_lt.2 (F_xc1 _ hm) X0.lt
    have nb_X1_xc1 : (w.heap.size + 1) ∉ bxc1_0 := fun hm => Nat.not_lt.2 (F_xc1 _ hm) X1.lt
    have nb_X2_xc1 : (w.heap.size + 1 + 1) ∉ bxc1_0 := fun hm => Nat.not_lt.2 (F_xc1 _ hm) X2.lt
    have nb_Yw0_xc1 : nbw0 ∉ bxc1_0 := fun hm => Nat.not_lt.2 (F_xc1 _ hm) Yw0.lt
    have nb_Z0_xc1 : w25.heap.size ∉ bxc1_0 := fun hm => Nat.not_lt.2 (F_xc1 _ hm) Z0.lt
    have G_xc1 : ∀ y ∈ bxc1_0, w.heap.size ≤ y := fun y hy => Nat.le_trans B.size (F_xc1 y hy)
    clear F_xc1
    replace X0 := X0.keep hb27
    replace X1 := X1.keep hb27
    replace X2 := X2.keep hb27
    replace Yw0 := Yw0.keep hb27
    replace Z0 := Z0.keep hb27
    replace w0 := w0.keep hb27
    replace xc0 := xc0.keep hb27
    replace B := B.trans (hb27.mono B.size)
    (try replace NB := NB.keep hb27)
    clear hb27 fxc1_0
    go_wp2_with (first | (refine wpList_store_blk rfl 36 _ _ rfl w27.heap.size cs_xc1 rfl rfl (Blk.new _ _ _) (by rw [R_xc1.1]; rfl) (R_xc1.hi (by kernel_rfl)) R_xc1.2 ?_; intro w28 Z1 o28; have nb_Z1_w0 : w27.heap.size ∉ (bw0_0 ++ (bw0_1 ++ (bw0_2 ++ bw0_3))) := (fun hm => Nat.lt_irrefl _ (w0.lt _ hm)); have nb_Z1_xc0 : w27.heap.size ∉ (bxc0_0 ++ (bxc0_1 ++ bxc0_2)) := (fun hm => Nat.lt_irrefl _ (xc0.lt _ hm)); have nb_Z1_xc1 : w27.heap.size ∉ bxc1_0 := (fun hm => Nat.lt_irrefl _ (xc1.lt _ hm)); replace X0 := (X0.alloc _).off o28 (nbnew X0.lt); replace X1 := (X1.alloc _).off o28 (nbnew X1.lt); replace X2 := (X2.alloc _).off o28 (nbnew X2.lt); replace Yw0 := (Yw0.alloc _).off o28 (nbnew Yw0.lt); replace Z0 := (Z0.alloc _).off o28 (nbnew Z0.lt); replace w0 := (w0.alloc _).off o28 (djnew w0.lt); replace xc0 := (xc0.alloc _).off o28 (djnew xc0.lt); replace xc1 := (xc1.alloc _).off o28 (djnew xc1.lt); replace B := below_past B o28; clear o28) | (refine wpList_load_blkg (by rfl) 31 _ rfl w.heap.size rfl X0 Tryz.underlying31 rfl (RC0.hi (by kernel_rfl)) ?_) | (refine wpList_load_blkg (by rfl) 33 _ rfl (w.heap.size + 1) rfl X1 Tryz.underlying33 rfl (RC1.hi (by kernel_rfl)) ?_) | (refine wpList_load_blkg (by rfl) 33 _ rfl (w.heap.size + 1 + 1) rfl X2 Tryz.underlying33 rfl (RC2.hi (by kernel_rfl)) ?_) | (refine wpList_load_blkg (by rfl) 43 _ rfl nbw0 rfl Yw0 Tryz.underlying43 rfl (R_w0.hi (by kernel_rfl)) ?_) | (refine wpList_load_blkg (by rfl) 41 _ rfl w25.heap.size rfl Z0 Tryz.underlying41 rfl (R_xc0.hi (by kernel_rfl)) ?_) | (refine wpList_load_blkg (by rfl) 36 _ rfl w27.heap.size rfl Z1 Tryz.underlying36 rfl (R_xc1.hi (by kernel_rfl)) ?_))
    refine (toMirror_ow _ x2 _ (by exact r2.below B) (by omega)).mono ?_
    rintro e w29 ⟨u, bxc2_0, rfl, xc2, fxc2_0, hb29⟩
    obtain ⟨cs_xc2, e_xc2, R_xc2⟩ := xc2.row
    subst e_xc2
    have F_xc2 : ∀ y ∈ bxc2_0, w28.heap.size ≤ y := fxc2_0
    (try have nbk_xc2 : _ ∉ bxc2_0 := fun hm => Nat.not_lt.2 (F_xc2 _ hm) NB.lt)
    have dj_w0_xc2 : Dj (bw0_0 ++ (bw0_1 ++ (bw0_2 ++ bw0_3))) bxc2_0 := fun y hy hm => Nat.not_lt.2 (F_xc2 y hm) (w0.lt y hy)
    have dj_xc0_xc2 : Dj (bxc0_0 ++ (bxc0_1 ++ bxc0_2)) bxc2_0 := fun y hy hm => Nat.not_lt.2 (F_xc2 y hm) (xc0.lt y hy)
    have dj_xc1_xc2 : Dj bxc1_0 bxc2_0 := fun y hy hm => Nat.not_lt.2 (F_xc2 y hm) (xc1.lt y hy)
    have nb_X0_xc2 : w.heap.size ∉ bxc2_0 := fun hm => Nat.not_lt.2 (F_xc2 _ hm) X0.lt
    have nb_X1_xc2 : (w.heap.size + 1) ∉ bxc2_0 := fun hm => Nat.not_lt.2 (F_xc2 _ hm) X1.lt
    have nb_X2_xc2 : (w.heap.size + 1 + 1) ∉ bxc2_0 := fun hm => Nat.not_lt.2 (F_xc2 _ hm) X2.lt
    have nb_Yw0_xc2 : nbw0 ∉ bxc2_0 := fun hm => Nat.not_lt.2 (F_xc2 _ hm) Yw0.lt
    have nb_Z0_xc2 : w25.heap.size ∉ bxc2_0 := fun hm => Nat.not_lt.2 (F_xc2 _ hm) Z0.lt
    have nb_Z1_xc2 : w27.heap.size ∉ bxc2_0 := fun hm => Nat.not_lt.2 (F_xc2 _ hm) Z1.lt
    have G_xc2 : ∀ y ∈ bxc2_0, w.heap.size ≤ y := fun y hy => Nat.le_trans B.size (F_xc2 y hy)
    clear F_xc2
    replace X0 := X0.keep hb29
    replace X1 := X1.keep hb29
    replace X2 := X2.keep hb29
    replace Yw0 := Yw0.keep hb29
    replace Z0 := Z0.keep hb29
    replace Z1 := Z1.keep hb29
    replace w0 := w0.keep hb29
    replace xc0 := xc0.keep hb29
    replace xc1 := xc1.keep hb29
    replace B := B.trans (hb29.mono B.size)
    (try replace NB := NB.keep hb29)
    clear hb29 fxc2_0
    go_wp2_with (first | (refine wpList_store_blk rfl 36 _ _ rfl w29.heap.size cs_xc2 rfl rfl (Blk.new _ _ _) (by rw [R_xc2.1]; rfl) (R_xc2.hi (by kernel_rfl)) R_xc2.2 ?_; intro w30 Z2 o30; have nb_Z2_w0 : w29.heap.size ∉ (bw0_0 ++ (bw0_1 ++ (bw0_2 ++ bw0_3))) := (fun hm => Nat.lt_irrefl _ (w0.lt _ hm)); have nb_Z2_xc0 : w29.heap.size ∉ (bxc0_0 ++ (bxc0_1 ++ bxc0_2)) := (fun hm => Nat.lt_irrefl _ (xc0.lt _ hm)); have nb_Z2_xc1 : w29.heap.size ∉ bxc1_0 := (fun hm => Nat.lt_irrefl _ (xc1.lt _ hm)); have nb_Z2_xc2 : w29.heap.size ∉ bxc2_0 := (fun hm => Nat.lt_irrefl _ (xc2.lt _ hm)); replace X0 := (X0.alloc _).off o30 (nbnew X0.lt); replace X1 := (X1.alloc _).off o30 (nbnew X1.lt); replace X2 := (X2.alloc _).off o30 (nbnew X2.lt); replace Yw0 := (Yw0.alloc _).off o30 (nbnew Yw0.lt); replace Z0 := (Z0.alloc _).off o30 (nbnew Z0.lt); replace Z1 := (Z1.alloc _).off o30 (nbnew Z1.lt); replace w0 := (w0.alloc _).off o30 (djnew w0.lt); replace xc0 := (xc0.alloc _).off o30 (djnew xc0.lt); replace xc1 := (xc1.alloc _).off o30 (djnew xc1.lt); replace xc2 := (xc2.alloc _).off o30 (djnew xc2.lt); replace B := below_past B o30; clear o30) | (refine wpList_load_blkg (by rfl) 31 _ rfl w.heap.size rfl X0 Tryz.underlying31 rfl (RC0.hi (by kernel_rfl)) ?_) | (refine wpList_load_blkg (by rfl) 33 _ rfl (w.heap.size + 1) rfl X1 Tryz.underlying33 rfl (RC1.hi (by kernel_rfl)) ?_) | (refine wpList_load_blkg (by rfl) 33 _ rfl (w.heap.size + 1 + 1) rfl X2 Tryz.underlying33 rfl (RC2.hi (by kernel_rfl)) ?_) | (refine wpList_load_blkg (by rfl) 43 _ rfl nbw0 rfl Yw0 Tryz.underlying43 rfl (R_w0.hi (by kernel_rfl)) ?_) | (refine wpList_load_blkg (by rfl) 41 _ rfl w25.heap.size rfl Z0 Tryz.underlying41 rfl (R_xc0.hi (by kernel_rfl)) ?_) | (refine wpList_load_blkg (by rfl) 36 _ rfl w27.heap.size rfl Z1 Tryz.underlying36 rfl (R_xc1.hi (by kernel_rfl)) ?_) | (refine wpList_load_blkg (by rfl) 36 _ rfl w29.heap.size rfl Z2 Tryz.underlying36 rfl (R_xc2.hi (by kernel_rfl)) ?_))
    refine (HI.out _ _ _ _ (by exact xc0.rd) (by exact xc1.rd) (by exact xc2.rd)).mono ?_
    rintro e w31 ⟨u, bg0_0, bg0_1, bg0_2, bg0_3, rfl, g0, fg0_0, fg0_1, fg0_2, fg0_3, hb31⟩
    obtain ⟨cs_g0, e_g0, R_g0⟩ := g0.row
    subst e_g0
    have F_g0 : ∀ y ∈ (bg0_0 ++ (bg0_1 ++ (bg0_2 ++ bg0_3))), w30.heap.size ≤ y := all_app fg0_0 (all_app fg0_1 (all_app fg0_2 fg0_3))
    (try have nbk_g0 : _ ∉ (bg0_0 ++ (bg0_1 ++ (bg0_2 ++ bg0_3))) := fun hm => Nat.not_lt.2 (F_g0 _ hm) NB.lt)
    have dj_w0_g0 : Dj (bw0_0 ++ (bw0_1 ++ (bw0_2 ++ bw0_3))) (bg0_0 ++ (bg0_1 ++ (bg0_2 ++ bg0_3))) := fun y hy hm => Nat.not_lt.2 (F_g0 y hm) (w0.lt y hy)
    have dj_xc0_g0 : Dj (bxc0_0 ++ (bxc0_1 ++ bxc0_2)) (bg0_0 ++ (bg0_1 ++ (bg0_2 ++ bg0_3))) := fun y hy hm => Nat.not_lt.2 (F_g0 y hm) (xc0.lt y hy)
    have dj_xc1_g0 : Dj bxc1_0 (bg0_0 ++ (bg0_1 ++ (bg0_2 ++ bg0_3))) := fun y hy hm => Nat.not_lt.2 (F_g0 y hm) (xc1.lt y hy)
    have dj_xc2_g0 : Dj bxc2_0 (bg0_0 ++ (bg0_1 ++ (bg0_2 ++ bg0_3))) := fun y hy hm => Nat.not_lt.2 (F_g0 y hm) (xc2.lt y hy)
    have nb_X0_g0 : w.heap.size ∉ (bg0_0 ++ (bg0_1 ++ (bg0_2 ++ bg0_3))) := fun hm => Nat.not_lt.2 (F_g0 _ hm) X0.lt
    have nb_X1_g0 : (w.heap.size + 1) ∉ (bg0_0 ++ (bg0_1 ++ (bg0_2 ++ bg0_3))) := fun hm => Nat.not_lt.2 (F_g0 _ hm) X1.lt
    have nb_X2_g0 : (w.heap.size + 1 + 1) ∉ (bg0_0 ++ (bg0_1 ++ (bg0_2 ++ bg0_3))) := fun hm => Nat.not_lt.2 (F_g0 _ hm) X2.lt
    have nb_Yw0_g0 : nbw0 ∉ (bg0_0 ++ (bg0_1 ++ (bg0_2 ++ bg0_3))) := fun hm => Nat.not_lt.2 (F_g0 _ hm) Yw0.lt
    have nb_Z0_g0 : w25.heap.size ∉ (bg0_0 ++ (bg0_1 ++ (bg0_2 ++ bg0_3))) := fun hm => Nat.not_lt.2 (F_g0 _ hm) Z0.lt
    have nb_Z1_g0 : w27.heap.size ∉ (bg0_0 ++ (bg0_1 ++ (bg0_2 ++ bg0_3))) := fun hm => Nat.not_lt.2 (F_g0 _ hm) Z1.lt
    have nb_Z2_g0 : w29.heap.size ∉ (bg0_0 ++ (bg0_1 ++ (bg0_2 ++ bg0_3))) := fun hm => Nat.not_lt.2 (F_g0 _ hm) Z2.lt
    have G_g0 : ∀ y ∈ (bg0_0 ++ (bg0_1 ++ (bg0_2 ++ bg0_3))), w.heap.size ≤ y := fun y hy => Nat.le_trans B.size (F_g0 y hy)
    clear F_g0
    (try replace NB := NB.keep hb31)
    replace X0 := X0.keep hb31
    replace X1 := X1.keep hb31
    replace X2 := X2.keep hb31
    replace Yw0 := Yw0.keep hb31
    replace Z0 := Z0.keep hb31
    replace Z1 := Z1.keep hb31
    replace Z2 := Z2.keep hb31
    replace w0 := w0.keep hb31
    replace xc0 := xc0.keep hb31
    replace xc1 := xc1.keep hb31
    replace xc2 := xc2.keep hb31
    replace B := B.trans (hb31.mono B.size)
    clear hb31 fg0_0 fg0_1 fg0_2 fg0_3
    go_wp2_with (first | (refine wpList_store_blk rfl 43 _ _ rfl w31.heap.size cs_g0 rfl rfl (Blk.new _ _ _) (by rw [R_g0.1]; rfl) (R_g0.hi (by kernel_rfl)) R_g0.2 ?_; intro w32 Yg0 o32; have nb_Yg0_w0 : w31.heap.size ∉ (bw0_0 ++ (bw0_1 ++ (bw0_2 ++ bw0_3))) := (fun hm => Nat.lt_irrefl _ (w0.lt _ hm)); have nb_Yg0_xc0 : w31.heap.size ∉ (bxc0_0 ++ (bxc0_1 ++ bxc0_2)) := (fun hm => Nat.lt_irrefl _ (xc0.lt _ hm)); have nb_Yg0_xc1 : w31.heap.size ∉ bxc1_0 := (fun hm => Nat.lt_irrefl _ (xc1.lt _ hm)); have nb_Yg0_xc2 : w31.heap.size ∉ bxc2_0 := (fun hm => Nat.lt_irrefl _ (xc2.lt _ hm)); have nb_Yg0_g0 : w31.heap.size ∉ (bg0_0 ++ (bg0_1 ++ (bg0_2 ++ bg0_3))) := (fun hm => Nat.lt_irrefl _ (g0.lt _ hm)); replace X0 := (X0.alloc _).off o32 (nbnew X0.lt); replace X1 := (X1.alloc _).off o32 (nbnew X1.lt); replace X2 := (X2.alloc _).off o32 (nbnew X2.lt); replace Yw0 := (Yw0.alloc _).off o32 (nbnew Yw0.lt); replace Z0 := (Z0.alloc _).off o32 (nbnew Z0.lt); replace Z1 := (Z1.alloc _).off o32 (nbnew Z1.lt); replace Z2 := (Z2.alloc _).off o32 (nbnew Z2.lt); replace w0 := (w0.alloc _).off o32 (djnew w0.lt); replace xc0 := (xc0.alloc _).off o32 (djnew xc0.lt); replace xc1 := (xc1.alloc _).off o32 (djnew xc1.lt); replace xc2 := (xc2.alloc _).off o32 (djnew xc2.lt); replace g0 := (g0.alloc _).off o32 (djnew g0.lt); replace B := below_past B o32; clear o32) | (refine wpList_load_blkg (by rfl) 31 _ rfl w.heap.size rfl X0 Tryz.underlying31 rfl (RC0.hi (by kernel_rfl)) ?_) | (refine wpList_load_blkg (by rfl) 33 _ rfl (w.heap.size + 1) rfl X1 Tryz.underlying33 rfl (RC1.hi (by kernel_rfl)) ?_) | (refine wpList_load_blkg (by rfl) 33 _ rfl (w.heap.size + 1 + 1) rfl X2 Tryz.underlying33 rfl (RC2.hi (by kernel_rfl)) ?_) | (refine wpList_load_blkg (by rfl) 43 _ rfl nbw0 rfl Yw0 Tryz.underlying43 rfl (R_w0.hi (by kernel_rfl)) ?_) | (refine wpList_load_blkg (by rfl) 41 _ rfl w25.heap.size rfl Z0 Tryz.underlying41 rfl (R_xc0.hi (by kernel_rfl)) ?_) | (refine wpList_load_blkg (by rfl) 36 _ rfl w27.heap.size rfl Z1 Tryz.underlying36 rfl (R_xc1.hi (by kernel_rfl)) ?_) | (refine wpList_load_blkg (by rfl) 36 _ rfl w29.heap.size rfl Z2 Tryz.underlying36 rfl (R_xc2.hi (by kernel_rfl)) ?_) | (refine wpList_load_blkg (by rfl) 43 _ rfl w31.heap.size rfl Yg0 Tryz.underlying43 rfl (R_g0.hi (by kernel_rfl)) ?_))
    refine (eqMixResult_rd _ _ r _ (by exact g0.rd) (by exact w0.rd)).mono ?_
    rintro e w33 ⟨rfl, hb33⟩
    replace X0 := X0.keep hb33
    replace X1 := X1.keep hb33
    replace X2 := X2.keep hb33
    replace Yw0 := Yw0.keep hb33
    replace Z0 := Z0.keep hb33
    replace Z1 := Z1.keep hb33
    replace Z2 := Z2.keep hb33
    replace Yg0 := Yg0.keep hb33
    replace w0 := w0.keep hb33
    replace xc0 := xc0.keep hb33
    replace xc1 := xc1.keep hb33
    replace xc2 := xc2.keep hb33
    replace g0 := g0.keep hb33
    replace B := B.trans (hb33.mono B.size)
    (try replace NB := NB.keep hb33)
    clear hb33
    go_wp2_with fail
    refine wp_region_held (S := fun V => Blk V w25.heap.size 41 cs_xc0 ∧ Blk V w.heap.size 31 cs0) (by kernel_rfl) ?_
    try (change wpAnyH _ _ _ _ _ _ _ _ (World.drew _))
    have hS : (fun V => Blk V w25.heap.size 41 cs_xc0 ∧ Blk V w.heap.size 31 cs0) _ := ⟨Z0.drew, X0.drew⟩
    replace X0 := X0.drew
    replace X1 := X1.drew
    replace X2 := X2.drew
    replace Yw0 := Yw0.drew
    replace Z0 := Z0.drew
    replace Z1 := Z1.drew
    replace Z2 := Z2.drew
    replace Yg0 := Yg0.drew
    replace w0 := w0.drew
    replace xc0 := xc0.drew
    replace xc1 := xc1.drew
    replace xc2 := xc2.drew
    replace g0 := g0.drew
    replace B := B.drew
    refine wpAnyH_take (i := 0) (v := _) rfl (by kernel_rfl) (by kernel_rfl) (by kernel_rfl) (fun _ _ _ h => h) (yieldsIf_load_mid (by rfl) _ _ rfl _ _ rfl _ _ (fun _ h => h.1.range) Tryz.underlying41 rfl (by simpa using (R_xc0.hi (by kernel_rfl)))) hS ?_
    (try simp only [List.getElem_toArray]); (try simp only [List.getElem_cons_succ]); (try simp only [List.getElem_cons_zero]); (try simp only [Act.put]); (try simp only [List.setIfInBounds_toArray]); (try simp only [List.set_cons_succ]); (try simp only [List.set_cons_zero])
    refine wpAnyH_take (i := 1) (v := _) rfl (by kernel_rfl) (by kernel_rfl) (by kernel_rfl) (fun _ _ _ h => h) (yieldsIf_load_mid (by rfl) _ _ rfl _ _ rfl _ _ (fun _ h => h.2.range) Tryz.underlying31 rfl (by simpa using (RC0.hi (by kernel_rfl)))) hS ?_
    (try simp only [List.getElem_toArray]); (try simp only [List.getElem_cons_succ]); (try simp only [List.getElem_cons_zero]); (try simp only [Act.put]); (try simp only [List.setIfInBounds_toArray]); (try simp only [List.set_cons_succ]); (try simp only [List.set_cons_zero])
    refine wpAnyH_ready (rs := [2]) (by kernel_rfl) (by simp) ?_
    refine AllReadyH.cons (o := _) rfl (fun K hK => ?_) AllReadyH.nil
    rw [if_pos (by rfl)]
    go_simp
    go_at_call 9
    refine (toNet_ow _ x0 _ (by exact r0.below B) (by omega)).mono ?_
    rintro e w34 ⟨u, by_0, by_1, by_2, rfl, y, fy_0, fy_1, fy_2, hb34⟩
    obtain ⟨cs_y, e_y, R_y⟩ := y.row
    subst e_y
    have F_y : ∀ y ∈ (by_0 ++ (by_1 ++ by_2)), w33.drew.heap.size ≤ y := all_app fy_0 (all_app fy_1 fy_2)
    (try have nbk_y : _ ∉ (by_0 ++ (by_1 ++ by_2)) := fun hm => Nat.not_lt.2 (F_y _ hm) NB.lt)
    have dj_w0_y : Dj (bw0_0 ++ (bw0_1 ++ (bw0_2 ++ bw0_3))) (by_0 ++ (by_1 ++ by_2)) := fun y hy hm => Nat.not_lt.2 (F_y y hm) (w0.lt y hy)
    have dj_xc0_y : Dj (bxc0_0 ++ (bxc0_1 ++ bxc0_2)) (by_0 ++ (by_1 ++ by_2)) := fun y hy hm => Nat.not_lt.2 (F_y y hm) (xc0.lt y hy)
    have dj_xc1_y : Dj bxc1_0 (by_0 ++ (by_1 ++ by_2)) := fun y hy hm => Nat.not_lt.2 (F_y y hm) (xc1.lt y hy)
    have dj_xc2_y : Dj bxc2_0 (by_0 ++ (by_1 ++ by_2)) := fun y hy hm => Nat.not_lt.2 (F_y y hm) (xc2.lt y hy)
    have dj_g0_y : Dj (bg0_0 ++ (bg0_1 ++ (bg0_2 ++ bg0_3))) (by_0 ++ (by_1 ++ by_2)) := fun y hy hm => Nat.not_lt.2 (F_y y hm) (g0.lt y hy)
    have nb_X0_y : w.heap.size ∉ (by_0 ++ (by_1 ++ by_2)) := fun hm => Nat.not_lt.2 (F_y _ hm) X0.lt
    have nb_X1_y : (w.heap.size + 1) ∉ (by_0 ++ (by_1 ++ by_2)) := fun hm => Nat.not_lt.2 (F_y _ hm) X1.lt
    have nb_X2_y : (w.heap.size + 1 + 1) ∉ (by_0 ++ (by_1 ++ by_2)) := fun hm => Nat.not_lt.2 (F_y _ hm) X2.lt
    have nb_Yw0_y : nbw0 ∉ (by_0 ++ (by_1 ++ by_2)) := fun hm => Nat.not_lt.2 (F_y _ hm) Yw0.lt
    have nb_Z0_y : w25.heap.size ∉ (by_0 ++ (by_1 ++ by_2)) := fun hm => Nat.not_lt.2 (F_y _ hm) Z0.lt
    have nb_Z1_y : w27.heap.size ∉ (by_0 ++ (by_1 ++ by_2)) := fun hm => Nat.not_lt.2 (F_y _ hm) Z1.lt
    have nb_Z2_y : w29.heap.size ∉ (by_0 ++ (by_1 ++ by_2)) := fun hm => Nat.not_lt.2 (F_y _ hm) Z2.lt
    have nb_Yg0_y : w31.heap.size ∉ (by_0 ++ (by_1 ++ by_2)) := fun hm => Nat.not_lt.2 (F_y _ hm) Yg0.lt
    have G_y : ∀ y ∈ (by_0 ++ (by_1 ++ by_2)), w.heap.size ≤ y := fun y hy => Nat.le_trans B.size (F_y y hy)
    clear F_y
    replace X0 := X0.keep hb34
    replace X1 := X1.keep hb34
    replace X2 := X2.keep hb34
    replace Yw0 := Yw0.keep hb34
    replace Z0 := Z0.keep hb34
    replace Z1 := Z1.keep hb34
    replace Z2 := Z2.keep hb34
    replace Yg0 := Yg0.keep hb34
    replace w0 := w0.keep hb34
    replace xc0 := xc0.keep hb34
    replace xc1 := xc1.keep hb34
    replace xc2 := xc2.keep hb34
    replace g0 := g0.keep hb34
    replace B := B.trans (hb34.mono B.size)
    (try replace NB := NB.keep hb34)
    clear hb34 fy_0 fy_1 fy_2
    dsimp only
    refine hK.out _ _ ⟨Z0, X0⟩ (fun hS => ?_)
    clear hK K
    (try simp only [List.getElem_toArray]); (try simp only [List.getElem_cons_succ]); (try simp only [List.getElem_cons_zero]); (try simp only [Act.put]); (try simp only [List.setIfInBounds_toArray]); (try simp only [List.set_cons_succ]); (try simp only [List.set_cons_zero])
    refine wpAnyH_ready (rs := [3]) (by kernel_rfl) (by simp) ?_
    refine AllReadyH.cons (o := _) rfl (fun K hK => ?_) AllReadyH.nil
    rw [if_pos (by rfl)]
    go_simp
    go_at_call 13
    refine (eqNet_rd _ _ x0 _ (by exact xc0.rd) (by exact y.rd)).mono ?_
    rintro e w35 ⟨rfl, hb35⟩
    replace X0 := X0.keep hb35
    replace X1 := X1.keep hb35
    replace X2 := X2.keep hb35
    replace Yw0 := Yw0.keep hb35
    replace Z0 := Z0.keep hb35
    replace Z1 := Z1.keep hb35
    replace Z2 := Z2.keep hb35
    replace Yg0 := Yg0.keep hb35
    replace w0 := w0.keep hb35
    replace xc0 := xc0.keep hb35
    replace xc1 := xc1.keep hb35
    replace xc2 := xc2.keep hb35
    replace g0 := g0.keep hb35
    replace y := y.keep hb35
    replace B := B.trans (hb35.mono B.size)
    (try replace NB := NB.keep hb35)
    clear hb35
    dsimp only
    refine hK.out _ _ ⟨Z0, X0⟩ (fun hS => ?_)
    clear hK K
    (try simp only [List.getElem_toArray]); (try simp only [List.getElem_cons_succ]); (try simp only [List.getElem_cons_zero]); (try simp only [Act.put]); (try simp only [List.setIfInBounds_toArray]); (try simp only [List.set_cons_succ]); (try simp only [List.set_cons_zero])
    refine wpAnyH_take (i := 4) (v := .bool false) rfl (by kernel_rfl) (by kernel_rfl) (by kernel_rfl) (fun _ _ _ h => h) (Or.inl ⟨by rfl, ?_⟩) hS ?_
    · intro w' hSw
      go_simp
    (try simp only [List.getElem_toArray]); (try simp only [List.getElem_cons_succ]); (try simp only [List.getElem_cons_zero]); (try simp only [Act.put]); (try simp only [List.setIfInBounds_toArray]); (try simp only [List.set_cons_succ]); (try simp only [List.set_cons_zero])
    refine wpAnyH_done (by kernel_rfl) ?_ _
    clear y G_y
    clear hS
    go_wp2_with fail
    refine wp_region_held (S := fun V => Blk V w27.heap.size 36 cs_xc1 ∧ Blk V (w.heap.size + 1) 33 cs1) (by kernel_rfl) ?_
    try (change wpAnyH _ _ _ _ _ _ _ _ (World.drew _))
    have hS : (fun V => Blk V w27.heap.size 36 cs_xc1 ∧ Blk V (w.heap.size + 1) 33 cs1) _ := ⟨Z1.drew, X1.drew⟩
    replace X0 := X0.drew
    replace X1 := X1.drew
    replace X2 := X2.drew
    replace Yw0 := Yw0.drew
    replace Z0 := Z0.drew
    replace Z1 := Z1.drew
    replace Z2 := Z2.drew
    replace Yg0 := Yg0.drew
    replace w0 := w0.drew
    replace xc0 := xc0.drew
    replace xc1 := xc1.drew
    replace xc2 := xc2.drew
    replace g0 := g0.drew
    replace B := B.drew
    refine wpAnyH_take (i := 0) (v := _) rfl (by kernel_rfl) (by kernel_rfl) (by kernel_rfl) (fun _ _ _ h => h) (yieldsIf_load_mid (by rfl) _ _ rfl _ _ rfl _ _ (fun _ h => h.1.range) Tryz.underlying36 rfl (by simpa using (R_xc1.hi (by kernel_rfl)))) hS ?_
    (try simp only [List.getElem_toArray]); (try simp only [List.getElem_cons_succ]); (try simp only [List.getElem_cons_zero]); (try simp only [Act.put]); (try simp only [List.setIfInBounds_toArray]); (try simp only [List.set_cons_succ]); (try simp only [List.set_cons_zero])
    refine wpAnyH_take (i := 1) (v := _) rfl (by kernel_rfl) (by kernel_rfl) (by kernel_rfl) (fun _ _ _ h => h) (yieldsIf_load_mid (by rfl) _ _ rfl _ _ rfl _ _ (fun _ h => h.2.range) Tryz.underlying33 rfl (by simpa using (RC1.hi (by kernel_rfl)))) hS ?_
    (try simp only [List.getElem_toArray]); (try simp only [List.getElem_cons_succ]); (try simp only [List.getElem_cons_zero]); (try simp only [Act.put]); (try simp only [List.setIfInBounds_toArray]); (try simp only [List.set_cons_succ]); (try simp only [List.set_cons_zero])
    refine wpAnyH_ready (rs := [2]) (by kernel_rfl) (by simp) ?_
    refine AllReadyH.cons (o := _) rfl (fun K hK => ?_) AllReadyH.nil
    rw [if_pos (by rfl)]
    go_simp
    go_at_call 10
    refine (toMirror_ow _ x1 _ (by exact r1.below B) (by omega)).mono ?_
    rintro e w36 ⟨u, by_0, rfl, y, fy_0, hb36⟩
    obtain ⟨cs_y, e_y, R_y⟩ := y.row
    subst e_y
    have F_y : ∀ y ∈ by_0, w35.drew.heap.size ≤ y := fy_0
    (try have nbk_y : _ ∉ by_0 := fun hm => Nat.not_lt.2 (F_y _ hm) NB.lt)
    have dj_w0_y : Dj (bw0_0 ++ (bw0_1 ++ (bw0_2 ++ bw0_3))) by_0 := fun y hy hm => Nat.not_lt.2 (F_y y hm) (w0.lt y hy)
    have dj_xc0_y : Dj (bxc0_0 ++ (bxc0_1 ++ bxc0_2)) by_0 := fun y hy hm => Nat.not_lt.2 (F_y y hm) (xc0.lt y hy)
    have dj_xc1_y : Dj bxc1_0 by_0 := fun y hy hm => Nat.not_lt.2 (F_y y hm) (xc1.lt y hy)
    have dj_xc2_y : Dj bxc2_0 by_0 := fun y hy hm => Nat.not_lt.2 (F_y y hm) (xc2.lt y hy)
    have dj_g0_y : Dj (bg0_0 ++ (bg0_1 ++ (bg0_2 ++ bg0_3))) by_0 := fun y hy hm => Nat.not_lt.2 (F_y y hm) (g0.lt y hy)
    have nb_X0_y : w.heap.size ∉ by_0 := fun hm => Nat.not_lt.2 (F_y _ hm) X0.lt
    have nb_X1_y : (w.heap.size + 1) ∉ by_0 := fun hm => Nat.not_lt.2 (F_y _ hm) X1.lt
    have nb_X2_y : (w.heap.size + 1 + 1) ∉ by_0 := fun hm => Nat.not_lt.2 (F_y _ hm) X2.lt
    have nb_Yw0_y : nbw0 ∉ by_0 := fun hm => Nat.not_lt.2 (F_y _ hm) Yw0.lt
    have nb_Z0_y : w25.heap.size ∉ by_0 := fun hm => Nat.not_lt.2 (F_y _ hm) Z0.lt
    have nb_Z1_y : w27.heap.size ∉ by_0 := fun hm => Nat.not_lt.2 (F_y _ hm) Z1.lt
    have nb_Z2_y : w29.heap.size ∉ by_0 := fun hm => Nat.not_lt.2 (F_y _ hm) Z2.lt
    have nb_Yg0_y : w31.heap.size ∉ by_0 := fun hm => Nat.not_lt.2 (F_y _ hm) Yg0.lt
    have G_y : ∀ y ∈ by_0, w.heap.size ≤ y := fun y hy => Nat.le_trans B.size (F_y y hy)
    clear F_y
    replace X0 := X0.keep hb36
    replace X1 := X1.keep hb36
    replace X2 := X2.keep hb36
    replace Yw0 := Yw0.keep hb36
    replace Z0 := Z0.keep hb36
    replace Z1 := Z1.keep hb36
    replace Z2 := Z2.keep hb36
    replace Yg0 := Yg0.keep hb36
    replace w0 := w0.keep hb36
    replace xc0 := xc0.keep hb36
    replace xc1 := xc1.keep hb36
    replace xc2 := xc2.keep hb36
    replace g0 := g0.keep hb36
    replace B := B.trans (hb36.mono B.size)
    (try replace NB := NB.keep hb36)
    clear hb36 fy_0
    dsimp only
    refine hK.out _ _ ⟨Z1, X1⟩ (fun hS => ?_)
    clear hK K
    (try simp only [List.getElem_toArray]); (try simp only [List.getElem_cons_succ]); (try simp only [List.getElem_cons_zero]); (try simp only [Act.put]); (try simp only [List.setIfInBounds_toArray]); (try simp only [List.set_cons_succ]); (try simp only [List.set_cons_zero])
    refine wpAnyH_ready (rs := [3]) (by kernel_rfl) (by simp) ?_
    refine AllReadyH.cons (o := _) rfl (fun K hK => ?_) AllReadyH.nil
    rw [if_pos (by rfl)]
    go_simp
    go_at_call 14
    refine (eqMirror_rd _ _ x1 _ (by exact xc1.rd) (by exact y.rd)).mono ?_
    rintro e w37 ⟨rfl, hb37⟩
    replace X0 := X0.keep hb37
    replace X1 := X1.keep hb37
    replace X2 := X2.keep hb37
    replace Yw0 := Yw0.keep hb37
    replace Z0 := Z0.keep hb37
    replace Z1 := Z1.keep hb37
    replace Z2 := Z2.keep hb37
    replace Yg0 := Yg0.keep hb37
    replace w0 := w0.keep hb37
    replace xc0 := xc0.keep hb37
    replace xc1 := xc1.keep hb37
    replace xc2 := xc2.keep hb37
    replace g0 := g0.keep hb37
    replace y := y.keep hb37
    replace B := B.trans (hb37.mono B.size)
    (try replace NB := NB.keep hb37)
    clear hb37
    dsimp only
    refine hK.out _ _ ⟨Z1, X1⟩ (fun hS => ?_)
    clear hK K
    (try simp only [List.getElem_toArray]); (try simp only [List.getElem_cons_succ]); (try simp only [List.getElem_cons_zero]); (try simp only [Act.put]); (try simp only [List.setIfInBounds_toArray]); (try simp only [List.set_cons_succ]); (try simp only [List.set_cons_zero])
    refine wpAnyH_take (i := 4) (v := .bool false) rfl (by kernel_rfl) (by kernel_rfl) (by kernel_rfl) (fun _ _ _ h => h) (Or.inl ⟨by rfl, ?_⟩) hS ?_
    · intro w' hSw
      go_simp
    (try simp only [List.getElem_toArray]); (try simp only [List.getElem_cons_succ]); (try simp only [List.getElem_cons_zero]); (try simp only [Act.put]); (try simp only [List.setIfInBounds_toArray]); (try simp only [List.set_cons_succ]); (try simp only [List.set_cons_zero])
    refine wpAnyH_done (by kernel_rfl) ?_ _
    clear y G_y
    clear hS
    go_wp2_with fail
    refine wp_region_held (S := fun V => Blk V w29.heap.size 36 cs_xc2 ∧ Blk V (w.heap.size + 1 + 1) 33 cs2) (by kernel_rfl) ?_
    try (change wpAnyH _ _ _ _ _ _ _ _ (World.drew _))
    have hS : (fun V => Blk V w29.heap.size 36 cs_xc2 ∧ Blk V (w.heap.size + 1 + 1) 33 cs2) _ := ⟨Z2.drew, X2.drew⟩
    replace X0 := X0.drew
    replace X1 := X1.drew
    replace X2 := X2.drew
    replace Yw0 := Yw0.drew
    replace Z0 := Z0.drew
    replace Z1 := Z1.drew
    replace Z2 := Z2.drew
    replace Yg0 := Yg0.drew
    replace w0 := w0.drew
    replace xc0 := xc0.drew
    replace xc1 := xc1.drew
    replace xc2 := xc2.drew
    replace g0 := g0.drew
    replace B := B.drew
    refine wpAnyH_take (i := 0) (v := _) rfl (by kernel_rfl) (by kernel_rfl) (by kernel_rfl) (fun _ _ _ h => h) (yieldsIf_load_mid (by rfl) _ _ rfl _ _ rfl _ _ (fun _ h => h.1.range) Tryz.underlying36 rfl (by simpa using (R_xc2.hi (by kernel_rfl)))) hS ?_
    (try simp only [List.getElem_toArray]); (try simp only [List.getElem_cons_succ]); (try simp only [List.getElem_cons_zero]); (try simp only [Act.put]); (try simp only [List.setIfInBounds_toArray]); (try simp only [List.set_cons_succ]); (try simp only [List.set_cons_zero])
    refine wpAnyH_take (i := 1) (v := _) rfl (by kernel_rfl) (by kernel_rfl) (by kernel_rfl) (fun _ _ _ h => h) (yieldsIf_load_mid (by rfl) _ _ rfl _ _ rfl _ _ (fun _ h => h.2.range) Tryz.underlying33 rfl (by simpa using (RC2.hi (by kernel_rfl)))) hS ?_
    (try simp only [List.getElem_toArray]); (try simp only [List.getElem_cons_succ]); (try simp only [List.getElem_cons_zero]); (try simp only [Act.put]); (try simp only [List.setIfInBounds_toArray]); (try simp only [List.set_cons_succ]); (try simp only [List.set_cons_zero])
    refine wpAnyH_ready (rs := [2]) (by kernel_rfl) (by simp) ?_
    refine AllReadyH.cons (o := _) rfl (fun K hK => ?_) AllReadyH.nil
    rw [if_pos (by rfl)]
    go_simp
    go_at_call 10
    refine (toMirror_ow _ x2 _ (by exact r2.below B) (by omega)).mono ?_
    rintro e w38 ⟨u, by_0, rfl, y, fy_0, hb38⟩
    obtain ⟨cs_y, e_y, R_y⟩ := y.row
    subst e_y
    have F_y : ∀ y ∈ by_0, w37.drew.heap.size ≤ y := fy_0
    (try have nbk_y : _ ∉ by_0 := fun hm => Nat.not_lt.2 (F_y _ hm) NB.lt)
    have dj_w0_y : Dj (bw0_0 ++ (bw0_1 ++ (bw0_2 ++ bw0_3))) by_0 := fun y hy hm => Nat.not_lt.2 (F_y y hm) (w0.lt y hy)
    have dj_xc0_y : Dj (bxc0_0 ++ (bxc0_1 ++ bxc0_2)) by_0 := fun y hy hm => Nat.not_lt.2 (F_y y hm) (xc0.lt y hy)
    have dj_xc1_y : Dj bxc1_0 by_0 := fun y hy hm => Nat.not_lt.2 (F_y y hm) (xc1.lt y hy)
    have dj_xc2_y : Dj bxc2_0 by_0 := fun y hy hm => Nat.not_lt.2 (F_y y hm) (xc2.lt y hy)
    have dj_g0_y : Dj (bg0_0 ++ (bg0_1 ++ (bg0_2 ++ bg0_3))) by_0 := fun y hy hm => Nat.not_lt.2 (F_y y hm) (g0.lt y hy)
    have nb_X0_y : w.heap.size ∉ by_0 := fun hm => Nat.not_lt.2 (F_y _ hm) X0.lt
    have nb_X1_y : (w.heap.size + 1) ∉ by_0 := fun hm => Nat.not_lt.2 (F_y _ hm) X1.lt
    have nb_X2_y : (w.heap.size + 1 + 1) ∉ by_0 := fun hm => Nat.not_lt.2 (F_y _ hm) X2.lt
    have nb_Yw0_y : nbw0 ∉ by_0 := fun hm => Nat.not_lt.2 (F_y _ hm) Yw0.lt
    have nb_Z0_y : w25.heap.size ∉ by_0 := fun hm => Nat.not_lt.2 (F_y _ hm) Z0.lt
    have nb_Z1_y : w27.heap.size ∉ by_0 := fun hm => Nat.not_lt.2 (F_y _ hm) Z1.lt
    have nb_Z2_y : w29.heap.size ∉ by_0 := fun hm => Nat.not_lt.2 (F_y _ hm) Z2.lt
    have nb_Yg0_y : w31.heap.size ∉ by_0 := fun hm => Nat.not_lt.2 (F_y _ hm) Yg0.lt
    have G_y : ∀ y ∈ by_0, w.heap.size ≤ y := fun y hy => Nat.le_trans B.size (F_y y hy)
    clear F_y
    replace X0 := X0.keep hb38
    replace X1 := X1.keep hb38
    replace X2 := X2.keep hb38
    replace Yw0 := Yw0.keep hb38
    replace Z0 := Z0.keep hb38
    replace Z1 := Z1.keep hb38
    replace Z2 := Z2.keep hb38
    replace Yg0 := Yg0.keep hb38
    replace w0 := w0.keep hb38
    replace xc0 := xc0.keep hb38
    replace xc1 := xc1.keep hb38
    replace xc2 := xc2.keep hb38
    replace g0 := g0.keep hb38
    replace B := B.trans (hb38.mono B.size)
    (try replace NB := NB.keep hb38)
    clear hb38 fy_0
    dsimp only
    refine hK.out _ _ ⟨Z2, X2⟩ (fun hS => ?_)
    clear hK K
    (try simp only [List.getElem_toArray]); (try simp only [List.getElem_cons_succ]); (try simp only [List.getElem_cons_zero]); (try simp only [Act.put]); (try simp only [List.setIfInBounds_toArray]); (try simp only [List.set_cons_succ]); (try simp only [List.set_cons_zero])
    refine wpAnyH_ready (rs := [3]) (by kernel_rfl) (by simp) ?_
    refine AllReadyH.cons (o := _) rfl (fun K hK => ?_) AllReadyH.nil
    rw [if_pos (by rfl)]
    go_simp
    go_at_call 14
    refine (eqMirror_rd _ _ x2 _ (by exact xc2.rd) (by exact y.rd)).mono ?_
    rintro e w39 ⟨rfl, hb39⟩
    replace X0 := X0.keep hb39
    replace X1 := X1.keep hb39
    replace X2 := X2.keep hb39
    replace Yw0 := Yw0.keep hb39
    replace Z0 := Z0.keep hb39
    replace Z1 := Z1.keep hb39
    replace Z2 := Z2.keep hb39
    replace Yg0 := Yg0.keep hb39
    replace w0 := w0.keep hb39
    replace xc0 := xc0.keep hb39
    replace xc1 := xc1.keep hb39
    replace xc2 := xc2.keep hb39
    replace g0 := g0.keep hb39
    replace y := y.keep hb39
    replace B := B.trans (hb39.mono B.size)
    (try replace NB := NB.keep hb39)
    clear hb39
    dsimp only
    refine hK.out _ _ ⟨Z2, X2⟩ (fun hS => ?_)
    clear hK K
    (try simp only [List.getElem_toArray]); (try simp only [List.getElem_cons_succ]); (try simp only [List.getElem_cons_zero]); (try simp only [Act.put]); (try simp only [List.setIfInBounds_toArray]); (try simp only [List.set_cons_succ]); (try simp only [List.set_cons_zero])
    refine wpAnyH_take (i := 4) (v := .bool false) rfl (by kernel_rfl) (by kernel_rfl) (by kernel_rfl) (fun _ _ _ h => h) (Or.inl ⟨by rfl, ?_⟩) hS ?_
    · intro w' hSw
      go_simp
    (try simp only [List.getElem_toArray]); (try simp only [List.getElem_cons_succ]); (try simp only [List.getElem_cons_zero]); (try simp only [Act.put]); (try simp only [List.setIfInBounds_toArray]); (try simp only [List.set_cons_succ]); (try simp only [List.set_cons_zero])
    refine wpAnyH_done (by kernel_rfl) ?_ _
    clear y G_y
    clear hS
    go_wp2_with (first | (refine wpList_load_blkg (by rfl) 31 _ rfl w.heap.size rfl X0 Tryz.underlying31 rfl (RC0.hi (by kernel_rfl)) ?_) | (refine wpList_load_blkg (by rfl) 33 _ rfl (w.heap.size + 1) rfl X1 Tryz.underlying33 rfl (RC1.hi (by kernel_rfl)) ?_) | (refine wpList_load_blkg (by rfl) 33 _ rfl (w.heap.size + 1 + 1) rfl X2 Tryz.underlying33 rfl (RC2.hi (by kernel_rfl)) ?_) | (refine wpList_load_blkg (by rfl) 43 _ rfl nbw0 rfl Yw0 Tryz.underlying43 rfl (R_w0.hi (by kernel_rfl)) ?_) | (refine wpList_load_blkg (by rfl) 41 _ rfl w25.heap.size rfl Z0 Tryz.underlying41 rfl (R_xc0.hi (by kernel_rfl)) ?_) | (refine wpList_load_blkg (by rfl) 36 _ rfl w27.heap.size rfl Z1 Tryz.underlying36 rfl (R_xc1.hi (by kernel_rfl)) ?_) | (refine wpList_load_blkg (by rfl) 36 _ rfl w29.heap.size rfl Z2 Tryz.underlying36 rfl (R_xc2.hi (by kernel_rfl)) ?_) | (refine wpList_load_blkg (by rfl) 43 _ rfl w31.heap.size rfl Yg0 Tryz.underlying43 rfl (R_g0.hi (by kernel_rfl)) ?_))
    refine (markNet_ow _ x0 bxc0_0 bxc0_1 bxc0_2 _ _ (by exact xc0) (by omega) (by omega)).mono ?_
    rintro e w40 ⟨rfl, mm, oo⟩
    replace X0 := X0.off oo nb_X0_xc0
    replace X1 := X1.off oo nb_X1_xc0
    replace X2 := X2.off oo nb_X2_xc0
    replace Yw0 := Yw0.off oo nb_Yw0_xc0
    replace Z0 := Z0.off oo nb_Z0_xc0
    replace Z1 := Z1.off oo nb_Z1_xc0
    replace Z2 := Z2.off oo nb_Z2_xc0
    replace Yg0 := Yg0.off oo nb_Yg0_xc0
    replace w0 := w0.off oo dj_w0_xc0
    replace xc1 := xc1.off oo dj_xc0_xc1.symm
    replace xc2 := xc2.off oo dj_xc0_xc2.symm
    replace g0 := g0.off oo dj_xc0_g0.symm
    replace B := B.trans (oo.toBelow B.size G_xc0)
    clear xc0 oo
    have xc0 := mm
    clear mm
    go_wp2_with (first | (refine wpList_load_blkg (by rfl) 31 _ rfl w.heap.size rfl X0 Tryz.underlying31 rfl (RC0.hi (by kernel_rfl)) ?_) | (refine wpList_load_blkg (by rfl) 33 _ rfl (w.heap.size + 1) rfl X1 Tryz.underlying33 rfl (RC1.hi (by kernel_rfl)) ?_) | (refine wpList_load_blkg (by rfl) 33 _ rfl (w.heap.size + 1 + 1) rfl X2 Tryz.underlying33 rfl (RC2.hi (by kernel_rfl)) ?_) | (refine wpList_load_blkg (by rfl) 43 _ rfl nbw0 rfl Yw0 Tryz.underlying43 rfl (R_w0.hi (by kernel_rfl)) ?_) | (refine wpList_load_blkg (by rfl) 41 _ rfl w25.heap.size rfl Z0 Tryz.underlying41 rfl (R_xc0.hi (by kernel_rfl)) ?_) | (refine wpList_load_blkg (by rfl) 36 _ rfl w27.heap.size rfl Z1 Tryz.underlying36 rfl (R_xc1.hi (by kernel_rfl)) ?_) | (refine wpList_load_blkg (by rfl) 36 _ rfl w29.heap.size rfl Z2 Tryz.underlying36 rfl (R_xc2.hi (by kernel_rfl)) ?_) | (refine wpList_load_blkg (by rfl) 43 _ rfl w31.heap.size rfl Yg0 Tryz.underlying43 rfl (R_g0.hi (by kernel_rfl)) ?_))
    refine (markMirror_ow _ x1 bxc1_0 _ _ (by exact xc1) (by omega) (by omega)).mono ?_
    rintro e w41 ⟨rfl, mm, oo⟩
    replace X0 := X0.off oo nb_X0_xc1
    replace X1 := X1.off oo nb_X1_xc1
    replace X2 := X2.off oo nb_X2_xc1
    replace Yw0 := Yw0.off oo nb_Yw0_xc1
    replace Z0 := Z0.off oo nb_Z0_xc1
    replace Z1 := Z1.off oo nb_Z1_xc1
    replace Z2 := Z2.off oo nb_Z2_xc1
    replace Yg0 := Yg0.off oo nb_Yg0_xc1
    replace w0 := w0.off oo dj_w0_xc1
    replace xc0 := xc0.off oo dj_xc0_xc1
    replace xc2 := xc2.off oo dj_xc1_xc2.symm
    replace g0 := g0.off oo dj_xc1_g0.symm
    replace B := B.trans (oo.toBelow B.size G_xc1)
    clear xc1 oo
    have xc1 := mm
    clear mm
    go_wp2_with (first | (refine wpList_load_blkg (by rfl) 31 _ rfl w.heap.size rfl X0 Tryz.underlying31 rfl (RC0.hi (by kernel_rfl)) ?_) | (refine wpList_load_blkg (by rfl) 33 _ rfl (w.heap.size + 1) rfl X1 Tryz.underlying33 rfl (RC1.hi (by kernel_rfl)) ?_) | (refine wpList_load_blkg (by rfl) 33 _ rfl (w.heap.size + 1 + 1) rfl X2 Tryz.underlying33 rfl (RC2.hi (by kernel_rfl)) ?_) | (refine wpList_load_blkg (by rfl) 43 _ rfl nbw0 rfl Yw0 Tryz.underlying43 rfl (R_w0.hi (by kernel_rfl)) ?_) | (refine wpList_load_blkg (by rfl) 41 _ rfl w25.heap.size rfl Z0 Tryz.underlying41 rfl (R_xc0.hi (by kernel_rfl)) ?_) | (refine wpList_load_blkg (by rfl) 36 _ rfl w27.heap.size rfl Z1 Tryz.underlying36 rfl (R_xc1.hi (by kernel_rfl)) ?_) | (refine wpList_load_blkg (by rfl) 36 _ rfl w29.heap.size rfl Z2 Tryz.underlying36 rfl (R_xc2.hi (by kernel_rfl)) ?_) | (refine wpList_load_blkg (by rfl) 43 _ rfl w31.heap.size rfl Yg0 Tryz.underlying43 rfl (R_g0.hi (by kernel_rfl)) ?_))
    refine (markMirror_ow _ x2 bxc2_0 _ _ (by exact xc2) (by omega) (by omega)).mono ?_
    rintro e w42 ⟨rfl, mm, oo⟩
    replace X0 := X0.off oo nb_X0_xc2
    replace X1 := X1.off oo nb_X1_xc2
    replace X2 := X2.off oo nb_X2_xc2
    replace Yw0 := Yw0.off oo nb_Yw0_xc2
    replace Z0 := Z0.off oo nb_Z0_xc2
    replace Z1 := Z1.off oo nb_Z1_xc2
    replace Z2 := Z2.off oo nb_Z2_xc2
    replace Yg0 := Yg0.off oo nb_Yg0_xc2
    replace w0 := w0.off oo dj_w0_xc2
    replace xc0 := xc0.off oo dj_xc0_xc2
    replace xc1 := xc1.off oo dj_xc1_xc2
    replace g0 := g0.off oo dj_xc2_g0.symm
    replace B := B.trans (oo.toBelow B.size G_xc2)
    clear xc2 oo
    have xc2 := mm
    clear mm
    go_wp2_with (first | (refine wpList_load_blkg (by rfl) 31 _ rfl w.heap.size rfl X0 Tryz.underlying31 rfl (RC0.hi (by kernel_rfl)) ?_) | (refine wpList_load_blkg (by rfl) 33 _ rfl (w.heap.size + 1) rfl X1 Tryz.underlying33 rfl (RC1.hi (by kernel_rfl)) ?_) | (refine wpList_load_blkg (by rfl) 33 _ rfl (w.heap.size + 1 + 1) rfl X2 Tryz.underlying33 rfl (RC2.hi (by kernel_rfl)) ?_) | (refine wpList_load_blkg (by rfl) 43 _ rfl nbw0 rfl Yw0 Tryz.underlying43 rfl (R_w0.hi (by kernel_rfl)) ?_) | (refine wpList_load_blkg (by rfl) 41 _ rfl w25.heap.size rfl Z0 Tryz.underlying41 rfl (R_xc0.hi (by kernel_rfl)) ?_) | (refine wpList_load_blkg (by rfl) 36 _ rfl w27.heap.size rfl Z1 Tryz.underlying36 rfl (R_xc1.hi (by kernel_rfl)) ?_) | (refine wpList_load_blkg (by rfl) 36 _ rfl w29.heap.size rfl Z2 Tryz.underlying36 rfl (R_xc2.hi (by kernel_rfl)) ?_) | (refine wpList_load_blkg (by rfl) 43 _ rfl w31.heap.size rfl Yg0 Tryz.underlying43 rfl (R_g0.hi (by kernel_rfl)) ?_))
    refine (eqMixResult_rd _ _ r _ (by exact g0.rd) (by exact w0.rd)).mono ?_
    rintro e w43 ⟨rfl, hb43⟩
    replace X0 := X0.keep hb43
    replace X1 := X1.keep hb43
    replace X2 := X2.keep hb43
    replace Yw0 := Yw0.keep hb43
    replace Z0 := Z0.keep hb43
    replace Z1 := Z1.keep hb43
    replace Z2 := Z2.keep hb43
    replace Yg0 := Yg0.keep hb43
    replace w0 := w0.keep hb43
    replace xc0 := xc0.keep hb43
    replace xc1 := xc1.keep hb43
    replace xc2 := xc2.keep hb43
    replace g0 := g0.keep hb43
    replace B := B.trans (hb43.mono B.size)
    (try replace NB := NB.keep hb43)
    clear hb43
    go_wp2_with (first | (refine wpList_load_blkg (by rfl) 31 _ rfl w.heap.size rfl X0 Tryz.underlying31 rfl (RC0.hi (by kernel_rfl)) ?_) | (refine wpList_load_blkg (by rfl) 33 _ rfl (w.heap.size + 1) rfl X1 Tryz.underlying33 rfl (RC1.hi (by kernel_rfl)) ?_) | (refine wpList_load_blkg (by rfl) 33 _ rfl (w.heap.size + 1 + 1) rfl X2 Tryz.underlying33 rfl (RC2.hi (by kernel_rfl)) ?_) | (refine wpList_load_blkg (by rfl) 43 _ rfl nbw0 rfl Yw0 Tryz.underlying43 rfl (R_w0.hi (by kernel_rfl)) ?_) | (refine wpList_load_blkg (by rfl) 41 _ rfl w25.heap.size rfl Z0 Tryz.underlying41 rfl (R_xc0.hi (by kernel_rfl)) ?_) | (refine wpList_load_blkg (by rfl) 36 _ rfl w27.heap.size rfl Z1 Tryz.underlying36 rfl (R_xc1.hi (by kernel_rfl)) ?_) | (refine wpList_load_blkg (by rfl) 36 _ rfl w29.heap.size rfl Z2 Tryz.underlying36 rfl (R_xc2.hi (by kernel_rfl)) ?_) | (refine wpList_load_blkg (by rfl) 43 _ rfl w31.heap.size rfl Yg0 Tryz.underlying43 rfl (R_g0.hi (by kernel_rfl)) ?_))
    refine (markMixResult_ow _ r bg0_0 bg0_1 bg0_2 bg0_3 _ _ (by exact g0) (by omega) (by omega)).mono ?_
    rintro e w44 ⟨rfl, mm, oo⟩
    replace X0 := X0.off oo nb_X0_g0
    replace X1 := X1.off oo nb_X1_g0
    replace X2 := X2.off oo nb_X2_g0
    replace Yw0 := Yw0.off oo nb_Yw0_g0
    replace Z0 := Z0.off oo nb_Z0_g0
    replace Z1 := Z1.off oo nb_Z1_g0
    replace Z2 := Z2.off oo nb_Z2_g0
    replace Yg0 := Yg0.off oo nb_Yg0_g0
    replace w0 := w0.off oo dj_w0_g0
    replace xc0 := xc0.off oo dj_xc0_g0
    replace xc1 := xc1.off oo dj_xc1_g0
    replace xc2 := xc2.off oo dj_xc2_g0
    replace B := B.trans (oo.toBelow B.size G_g0)
    clear g0 oo
    have g0 := mm
    clear mm
    go_wp2_with (first | (refine wpList_load_blkg (by rfl) 31 _ rfl w.heap.size rfl X0 Tryz.underlying31 rfl (RC0.hi (by kernel_rfl)) ?_) | (refine wpList_load_blkg (by rfl) 33 _ rfl (w.heap.size + 1) rfl X1 Tryz.underlying33 rfl (RC1.hi (by kernel_rfl)) ?_) | (refine wpList_load_blkg (by rfl) 33 _ rfl (w.heap.size + 1 + 1) rfl X2 Tryz.underlying33 rfl (RC2.hi (by kernel_rfl)) ?_) | (refine wpList_load_blkg (by rfl) 43 _ rfl nbw0 rfl Yw0 Tryz.underlying43 rfl (R_w0.hi (by kernel_rfl)) ?_) | (refine wpList_load_blkg (by rfl) 41 _ rfl w25.heap.size rfl Z0 Tryz.underlying41 rfl (R_xc0.hi (by kernel_rfl)) ?_) | (refine wpList_load_blkg (by rfl) 36 _ rfl w27.heap.size rfl Z1 Tryz.underlying36 rfl (R_xc1.hi (by kernel_rfl)) ?_) | (refine wpList_load_blkg (by rfl) 36 _ rfl w29.heap.size rfl Z2 Tryz.underlying36 rfl (R_xc2.hi (by kernel_rfl)) ?_) | (refine wpList_load_blkg (by rfl) 43 _ rfl w31.heap.size rfl Yg0 Tryz.underlying43 rfl (R_g0.hi (by kernel_rfl)) ?_))
    refine (heldMixResult_rd _ r _ _ (by exact g0.rd) (by omega) (by omega)).mono ?_
    rintro e w45 ⟨rfl, hb45⟩
    replace X0 := X0.keep hb45
    replace X1 := X1.keep hb45
    replace X2 := X2.keep hb45
    replace Yw0 := Yw0.keep hb45
    replace Z0 := Z0.keep hb45
    replace Z1 := Z1.keep hb45
    replace Z2 := Z2.keep hb45
    replace Yg0 := Yg0.keep hb45
    replace w0 := w0.keep hb45
    replace xc0 := xc0.keep hb45
    replace xc1 := xc1.keep hb45
    replace xc2 := xc2.keep hb45
    replace g0 := g0.keep hb45
    replace B := B.trans (hb45.mono B.size)
    (try replace NB := NB.keep hb45)
    clear hb45
    go_wp2_with fail
    (try simp only [Act.put])
    go_cut [16] from 17 (fun s wr => ∃ nz cs_h0 bh0_0 bh0_1 bh0_2 bh0_3, s = .pointer (some ⟨nz, 0, none⟩) ∧ Blk wr w.heap.size 31 cs0 ∧ Blk wr (w.heap.size + 1) 33 cs1 ∧ Blk wr (w.heap.size + 1 + 1) 33 cs2 ∧ Blk wr nbw0 43 cs_w0 ∧ Blk wr w25.heap.size 41 cs_xc0 ∧ Blk wr w27.heap.size 36 cs_xc1 ∧ Blk wr w29.heap.size 36 cs_xc2 ∧ Blk wr w31.heap.size 43 cs_g0 ∧ Below w.heap.size w wr ∧ OwMixResult wr (.agg cs_w0) r bw0_0 bw0_1 bw0_2 bw0_3 ∧ OwNet wr (.agg cs_xc0) (mkNet 1 x0) bxc0_0 bxc0_1 bxc0_2 ∧ OwMirror wr (.agg cs_xc1) (mkMirror (1 + (cntNet x0 : Nat)) x1) bxc1_0 ∧ OwMirror wr (.agg cs_xc2) (mkMirror (1 + (cntNet x0 : Nat) + (cntMirror x1 : Nat)) x2) bxc2_0 ∧ OwMixResult wr (.agg cs_g0) (mkMixResult 1 r) bg0_0 bg0_1 bg0_2 bg0_3 ∧ OwMixResult wr (.agg cs_h0) r bh0_0 bh0_1 bh0_2 bh0_3 ∧ Rw 19 cs_h0 ∧ Blk wr nz 43 cs_h0 ∧ Dj (bw0_0 ++ (bw0_1 ++ (bw0_2 ++ bw0_3))) (bh0_0 ++ (bh0_1 ++ (bh0_2 ++ bh0_3))) ∧ Dj (bxc0_0 ++ (bxc0_1 ++ bxc0_2)) (bh0_0 ++ (bh0_1 ++ (bh0_2 ++ bh0_3))) ∧ Dj bxc1_0 (bh0_0 ++ (bh0_1 ++ (bh0_2 ++ bh0_3))) ∧ Dj bxc2_0 (bh0_0 ++ (bh0_1 ++ (bh0_2 ++ bh0_3))) ∧ Dj (bg0_0 ++ (bg0_1 ++ (bg0_2 ++ bg0_3))) (bh0_0 ++ (bh0_1 ++ (bh0_2 ++ bh0_3))) ∧ w.heap.size ∉ (bh0_0 ++ (bh0_1 ++ (bh0_2 ++ bh0_3))) ∧ (w.heap.size + 1) ∉ (bh0_0 ++ (bh0_1 ++ (bh0_2 ++ bh0_3))) ∧ (w.heap.size + 1 + 1) ∉ (bh0_0 ++ (bh0_1 ++ (bh0_2 ++ bh0_3))) ∧ nbw0 ∉ (bh0_0 ++ (bh0_1 ++ (bh0_2 ++ bh0_3))) ∧ w25.heap.size ∉ (bh0_0 ++ (bh0_1 ++ (bh0_2 ++ bh0_3))) ∧ w27.heap.size ∉ (bh0_0 ++ (bh0_1 ++ (bh0_2 ++ bh0_3))) ∧ w29.heap.size ∉ (bh0_0 ++ (bh0_1 ++ (bh0_2 ++ bh0_3))) ∧ w31.heap.size ∉ (bh0_0 ++ (bh0_1 ++ (bh0_2 ++ bh0_3))) ∧ (∀ y ∈ (bh0_0 ++ (bh0_1 ++ (bh0_2 ++ bh0_3))), w.heap.size ≤ y) ∧ nz ∉ (bw0_0 ++ (bw0_1 ++ (bw0_2 ++ bw0_3))) ∧ nz ∉ (bxc0_0 ++ (bxc0_1 ++ bxc0_2)) ∧ nz ∉ bxc1_0 ∧ nz ∉ bxc2_0 ∧ nz ∉ (bg0_0 ++ (bg0_1 ++ (bg0_2 ++ bg0_3))) ∧ nz ∉ (bh0_0 ++ (bh0_1 ++ (bh0_2 ++ bh0_3))))
    case first =>
      refine wp_region_held (S := fun V => Blk V w.heap.size 31 cs0 ∧ Blk V (w.heap.size + 1) 33 cs1 ∧ Blk V (w.heap.size + 1 + 1) 33 cs2) (by kernel_rfl) ?_
      try (change wpAnyH _ _ _ _ _ _ _ _ (World.drew _))
      have hS : (fun V => Blk V w.heap.size 31 cs0 ∧ Blk V (w.heap.size + 1) 33 cs1 ∧ Blk V (w.heap.size + 1 + 1) 33 cs2) _ := ⟨X0.drew, X1.drew, X2.drew⟩
      replace X0 := X0.drew
      replace X1 := X1.drew
      replace X2 := X2.drew
      replace Yw0 := Yw0.drew
      replace Z0 := Z0.drew
      replace Z1 := Z1.drew
      replace Z2 := Z2.drew
      replace Yg0 := Yg0.drew
      replace w0 := w0.drew
      replace xc0 := xc0.drew
      replace xc1 := xc1.drew
      replace xc2 := xc2.drew
      replace g0 := g0.drew
      replace B := B.drew
      refine wpAnyH_take (i := 0) (v := _) rfl (by kernel_rfl) (by kernel_rfl) (by kernel_rfl) (fun _ _ _ h => h) (yieldsIf_load_mid (by rfl) _ _ rfl _ _ rfl _ _ (fun _ h => h.1.range) Tryz.underlying31 rfl (by simpa using (RC0.hi (by kernel_rfl)))) hS ?_
      (try simp only [List.getElem_toArray]); (try simp only [List.getElem_cons_succ]); (try simp only [List.getElem_cons_zero]); (try simp only [Act.put]); (try simp only [List.setIfInBounds_toArray]); (try simp only [List.set_cons_succ]); (try simp only [List.set_cons_zero])
      refine wpAnyH_take (i := 2) (v := _) rfl (by kernel_rfl) (by kernel_rfl) (by kernel_rfl) (fun _ _ _ h => h) (yieldsIf_load_mid (by rfl) _ _ rfl _ _ rfl _ _ (fun _ h => h.2.1.range) Tryz.underlying33 rfl (by simpa using (RC1.hi (by kernel_rfl)))) hS ?_
      (try simp only [List.getElem_toArray]); (try simp only [List.getElem_cons_succ]); (try simp only [List.getElem_cons_zero]); (try simp only [Act.put]); (try simp only [List.setIfInBounds_toArray]); (try simp only [List.set_cons_succ]); (try simp only [List.set_cons_zero])
      refine wpAnyH_take (i := 4) (v := _) rfl (by kernel_rfl) (by kernel_rfl) (by kernel_rfl) (fun _ _ _ h => h) (yieldsIf_load_mid (by rfl) _ _ rfl _ _ rfl _ _ (fun _ h => h.2.2.range) Tryz.underlying33 rfl (by simpa using (RC2.hi (by kernel_rfl)))) hS ?_
      (try simp only [List.getElem_toArray]); (try simp only [List.getElem_cons_succ]); (try simp only [List.getElem_cons_zero]); (try simp only [Act.put]); (try simp only [List.setIfInBounds_toArray]); (try simp only [List.set_cons_succ]); (try simp only [List.set_cons_zero])
      refine wpAnyH_ready (rs := [1, 7]) (by kernel_rfl) (by simp) ?_
      refine AllReadyH.cons (o := _) rfl (fun K hK => ?_) (AllReadyH.cons (o := _) rfl (fun K hK => ?_) AllReadyH.nil)
      · rw [if_pos (by rfl)]
        go_simp
        go_at_call 9
        refine (toNet_ow _ x0 _ (by exact r0.below B) (by omega)).mono ?_
        rintro e w46 ⟨u, bh0a0_0, bh0a0_1, bh0a0_2, rfl, h0a0, fh0a0_0, fh0a0_1, fh0a0_2, hb46⟩
        obtain ⟨cs_h0a0, e_h0a0, R_h0a0⟩ := h0a0.row
        subst e_h0a0
        have F_h0a0 : ∀ y ∈ (bh0a0_0 ++ (bh0a0_1 ++ bh0a0_2)), w45.drew.heap.size ≤ y := all_app fh0a0_0 (all_app fh0a0_1 fh0a0_2)
        (try have nbk_h0a0 : _ ∉ (bh0a0_0 ++ (bh0a0_1 ++ bh0a0_2)) := fun hm => Nat.not_lt.2 (F_h0a0 _ hm) NB.lt)
        have dj_w0_h0a0 : Dj (bw0_0 ++ (bw0_1 ++ (bw0_2 ++ bw0_3))) (bh0a0_0 ++ (bh0a0_1 ++ bh0a0_2)) := fun y hy hm => Nat.not_lt.2 (F_h0a0 y hm) (w0.lt y hy)
        have dj_xc0_h0a0 : Dj (bxc0_0 ++ (bxc0_1 ++ bxc0_2)) (bh0a0_0 ++ (bh0a0_1 ++ bh0a0_2)) := fun y hy hm => Nat.not_lt.2 (F_h0a0 y hm) (xc0.lt y hy)
        have dj_xc1_h0a0 : Dj bxc1_0 (bh0a0_0 ++ (bh0a0_1 ++ bh0a0_2)) := fun y hy hm => Nat.not_lt.2 (F_h0a0 y hm) (xc1.lt y hy)
        have dj_xc2_h0a0 : Dj bxc2_0 (bh0a0_0 ++ (bh0a0_1 ++ bh0a0_2)) := fun y hy hm => Nat.not_lt.2 (F_h0a0 y hm) (xc2.lt y hy)
        have dj_g0_h0a0 : Dj (bg0_0 ++ (bg0_1 ++ (bg0_2 ++ bg0_3))) (bh0a0_0 ++ (bh0a0_1 ++ bh0a0_2)) := fun y hy hm => Nat.not_lt.2 (F_h0a0 y hm) (g0.lt y hy)
        have nb_X0_h0a0 : w.heap.size ∉ (bh0a0_0 ++ (bh0a0_1 ++ bh0a0_2)) := fun hm => Nat.not_lt.2 (F_h0a0 _ hm) X0.lt
        have nb_X1_h0a0 : (w.heap.size + 1) ∉ (bh0a0_0 ++ (bh0a0_1 ++ bh0a0_2)) := fun hm => Nat.not_lt.2 (F_h0a0 _ hm) X1.lt
        have nb_X2_h0a0 : (w.heap.size + 1 + 1) ∉ (bh0a0_0 ++ (bh0a0_1 ++ bh0a0_2)) := fun hm => Nat.not_lt.2 (F_h0a0 _ hm) X2.lt
        have nb_Yw0_h0a0 : nbw0 ∉ (bh0a0_0 ++ (bh0a0_1 ++ bh0a0_2)) := fun hm => Nat.not_lt.2 (F_h0a0 _ hm) Yw0.lt
        have nb_Z0_h0a0 : w25.heap.size ∉ (bh0a0_0 ++ (bh0a0_1 ++ bh0a0_2)) := fun hm => Nat.not_lt.2 (F_h0a0 _ hm) Z0.lt
        have nb_Z1_h0a0 : w27.heap.size ∉ (bh0a0_0 ++ (bh0a0_1 ++ bh0a0_2)) := fun hm => Nat.not_lt.2 (F_h0a0 _ hm) Z1.lt
        have nb_Z2_h0a0 : w29.heap.size ∉ (bh0a0_0 ++ (bh0a0_1 ++ bh0a0_2)) := fun hm => Nat.not_lt.2 (F_h0a0 _ hm) Z2.lt
        have nb_Yg0_h0a0 : w31.heap.size ∉ (bh0a0_0 ++ (bh0a0_1 ++ bh0a0_2)) := fun hm => Nat.not_lt.2 (F_h0a0 _ hm) Yg0.lt
        have G_h0a0 : ∀ y ∈ (bh0a0_0 ++ (bh0a0_1 ++ bh0a0_2)), w.heap.size ≤ y := fun y hy => Nat.le_trans B.size (F_h0a0 y hy)
        clear F_h0a0
        (try replace NB := NB.keep hb46)
        replace X0 := X0.keep hb46
        replace X1 := X1.keep hb46
        replace X2 := X2.keep hb46
        replace Yw0 := Yw0.keep hb46
        replace Z0 := Z0.keep hb46
        replace Z1 := Z1.keep hb46
        replace Z2 := Z2.keep hb46
        replace Yg0 := Yg0.keep hb46
        replace w0 := w0.keep hb46
        replace xc0 := xc0.keep hb46
        replace xc1 := xc1.keep hb46
        replace xc2 := xc2.keep hb46
        replace g0 := g0.keep hb46
        replace B := B.trans (hb46.mono B.size)
        clear hb46 fh0a0_0 fh0a0_1 fh0a0_2
        (try dsimp only)
        refine hK.out _ _ ⟨X0, X1, X2⟩ (fun hS => ?_)
        clear hK K
        (try simp only [List.getElem_toArray]); (try simp only [List.getElem_cons_succ]); (try simp only [List.getElem_cons_zero]); (try simp only [Act.put]); (try simp only [List.setIfInBounds_toArray]); (try simp only [List.set_cons_succ]); (try simp only [List.set_cons_zero])
        refine wpAnyH_ready (rs := [3, 7]) (by kernel_rfl) (by simp) ?_
        refine AllReadyH.cons (o := _) rfl (fun K hK => ?_) (AllReadyH.cons (o := _) rfl (fun K hK => ?_) AllReadyH.nil)
        · rw [if_pos (by rfl)]
          go_simp
          go_at_call 10
          refine (toMirror_ow _ x1 _ (by exact r1.below B) (by omega)).mono ?_
          rintro e w47 ⟨u, bh0a1_0, rfl, h0a1, fh0a1_0, hb47⟩
          obtain ⟨cs_h0a1, e_h0a1, R_h0a1⟩ := h0a1.row
          subst e_h0a1
          have F_h0a1 : ∀ y ∈ bh0a1_0, w46.heap.size ≤ y := fh0a1_0
          (try have nbk_h0a1 : _ ∉ bh0a1_0 := fun hm => Nat.not_lt.2 (F_h0a1 _ hm) NB.lt)
          have dj_w0_h0a1 : Dj (bw0_0 ++ (bw0_1 ++ (bw0_2 ++ bw0_3))) bh0a1_0 := fun y hy hm => Nat.not_lt.2 (F_h0a1 y hm) (w0.lt y hy)
          have dj_xc0_h0a1 : Dj (bxc0_0 ++ (bxc0_1 ++ bxc0_2)) bh0a1_0 := fun y hy hm => Nat.not_lt.2 (F_h0a1 y hm) (xc0.lt y hy)
          have dj_xc1_h0a1 : Dj bxc1_0 bh0a1_0 := fun y hy hm => Nat.not_lt.2 (F_h0a1 y hm) (xc1.lt y hy)
          have dj_xc2_h0a1 : Dj bxc2_0 bh0a1_0 := fun y hy hm => Nat.not_lt.2 (F_h0a1 y hm) (xc2.lt y hy)
          have dj_g0_h0a1 : Dj (bg0_0 ++ (bg0_1 ++ (bg0_2 ++ bg0_3))) bh0a1_0 := fun y hy hm => Nat.not_lt.2 (F_h0a1 y hm) (g0.lt y hy)
          have dj_h0a0_h0a1 : Dj (bh0a0_0 ++ (bh0a0_1 ++ bh0a0_2)) bh0a1_0 := fun y hy hm => Nat.not_lt.2 (F_h0a1 y hm) (h0a0.lt y hy)
          have nb_X0_h0a1 : w.heap.size ∉ bh0a1_0 := fun hm => Nat.not_lt.2 (F_h0a1 _ hm) X0.lt
          have nb_X1_h0a1 : (w.heap.size + 1) ∉ bh0a1_0 := fun hm => Nat.not_lt.2 (F_h0a1 _ hm) X1.lt
          have nb_X2_h0a1 : (w.heap.size + 1 + 1) ∉ bh0a1_0 := fun hm => Nat.not_lt.2 (F_h0a1 _ hm) X2.lt
          have nb_Yw0_h0a1 : nbw0 ∉ bh0a1_0 := fun hm => Nat.not_lt.2 (F_h0a1 _ hm) Yw0.lt
          have nb_Z0_h0a1 : w25.heap.size ∉ bh0a1_0 := fun hm => Nat.not_lt.2 (F_h0a1 _ hm) Z0.lt
          have nb_Z1_h0a1 : w27.heap.size ∉ bh0a1_0 := fun hm => Nat.not_lt.2 (F_h0a1 _ hm) Z1.lt
          have nb_Z2_h0a1 : w29.heap.size ∉ bh0a1_0 := fun hm => Nat.not_lt.2 (F_h0a1 _ hm) Z2.lt
          have nb_Yg0_h0a1 : w31.heap.size ∉ bh0a1_0 := fun hm => Nat.not_lt.2 (F_h0a1 _ hm) Yg0.lt
          have G_h0a1 : ∀ y ∈ bh0a1_0, w.heap.size ≤ y := fun y hy => Nat.le_trans B.size (F_h0a1 y hy)
          clear F_h0a1
          (try replace NB := NB.keep hb47)
          replace X0 := X0.keep hb47
          replace X1 := X1.keep hb47
          replace X2 := X2.keep hb47
          replace Yw0 := Yw0.keep hb47
          replace Z0 := Z0.keep hb47
          replace Z1 := Z1.keep hb47
          replace Z2 := Z2.keep hb47
          replace Yg0 := Yg0.keep hb47
          replace w0 := w0.keep hb47
          replace xc0 := xc0.keep hb47
          replace xc1 := xc1.keep hb47
          replace xc2 := xc2.keep hb47
          replace g0 := g0.keep hb47
          replace h0a0 := h0a0.keep hb47
          replace B := B.trans (hb47.mono B.size)
          clear hb47 fh0a1_0
          (try dsimp only)
          refine hK.out _ _ ⟨X0, X1, X2⟩ (fun hS => ?_)
          clear hK K
          (try simp only [List.getElem_toArray]); (try simp only [List.getElem_cons_succ]); (try simp only [List.getElem_cons_zero]); (try simp only [Act.put]); (try simp only [List.setIfInBounds_toArray]); (try simp only [List.set_cons_succ]); (try simp only [List.set_cons_zero])
          refine wpAnyH_ready (rs := [5, 7]) (by kernel_rfl) (by simp) ?_
          refine AllReadyH.cons (o := _) rfl (fun K hK => ?_) (AllReadyH.cons (o := _) rfl (fun K hK => ?_) AllReadyH.nil)
          · rw [if_pos (by rfl)]
            go_simp
            go_at_call 10
            refine (toMirror_ow _ x2 _ (by exact r2.below B) (by omega)).mono ?_
            rintro e w48 ⟨u, bh0a2_0, rfl, h0a2, fh0a2_0, hb48⟩
            obtain ⟨cs_h0a2, e_h0a2, R_h0a2⟩ := h0a2.row
            subst e_h0a2
            have F_h0a2 : ∀ y ∈ bh0a2_0, w47.heap.size ≤ y := fh0a2_0
            (try have nbk_h0a2 : _ ∉ bh0a2_0 := fun hm => Nat.not_lt.2 (F_h0a2 _ hm) NB.lt)
            have dj_w0_h0a2 : Dj (bw0_0 ++ (bw0_1 ++ (bw0_2 ++ bw0_3))) bh0a2_0 := fun y hy hm => Nat.not_lt.2 (F_h0a2 y hm) (w0.lt y hy)
            have dj_xc0_h0a2 : Dj (bxc0_0 ++ (bxc0_1 ++ bxc0_2)) bh0a2_0 := fun y hy hm => Nat.not_lt.2 (F_h0a2 y hm) (xc0.lt y hy)
            have dj_xc1_h0a2 : Dj bxc1_0 bh0a2_0 := fun y hy hm => Nat.not_lt.2 (F_h0a2 y hm) (xc1.lt y hy)
            have dj_xc2_h0a2 : Dj bxc2_0 bh0a2_0 := fun y hy hm => Nat.not_lt.2 (F_h0a2 y hm) (xc2.lt y hy)
            have dj_g0_h0a2 : Dj (bg0_0 ++ (bg0_1 ++ (bg0_2 ++ bg0_3))) bh0a2_0 := fun y hy hm => Nat.not_lt.2 (F_h0a2 y hm) (g0.lt y hy)
            have dj_h0a0_h0a2 : Dj (bh0a0_0 ++ (bh0a0_1 ++ bh0a0_2)) bh0a2_0 := fun y hy hm => Nat.not_lt.2 (F_h0a2 y hm) (h0a0.lt y hy)
            have dj_h0a1_h0a2 : Dj bh0a1_0 bh0a2_0 := fun y hy hm => Nat.not_lt.2 (F_h0a2 y hm) (h0a1.lt y hy)
            have nb_X0_h0a2 : w.heap.size ∉ bh0a2_0 := fun hm => Nat.not_lt.2 (F_h0a2 _ hm) X0.lt
            have nb_X1_h0a2 : (w.heap.size + 1) ∉ bh0a2_0 := fun hm => Nat.not_lt.2 (F_h0a2 _ hm) X1.lt
            have nb_X2_h0a2 : (w.heap.size + 1 + 1) ∉ bh0a2_0 := fun hm => Nat.not_lt.2 (F_h0a2 _ hm) X2.lt
            have nb_Yw0_h0a2 : nbw0 ∉ bh0a2_0 := fun hm => Nat.not_lt.2 (F_h0a2 _ hm) Yw0.lt
            have nb_Z0_h0a2 : w25.heap.size ∉ bh0a2_0 := fun hm => Nat.not_lt.2 (F_h0a2 _ hm) Z0.lt
            have nb_Z1_h0a2 : w27.heap.size ∉ bh0a2_0 := fun hm => Nat.not_lt.2 (F_h0a2 _ hm) Z1.lt
            have nb_Z2_h0a2 : w29.heap.size ∉ bh0a2_0 := fun hm => Nat.not_lt.2 (F_h0a2 _ hm) Z2.lt
            have nb_Yg0_h0a2 : w31.heap.size ∉ bh0a2_0 := fun hm => Nat.not_lt.2 (F_h0a2 _ hm) Yg0.lt
            have G_h0a2 : ∀ y ∈ bh0a2_0, w.heap.size ≤ y := fun y hy => Nat.le_trans B.size (F_h0a2 y hy)
            clear F_h0a2
            (try replace NB := NB.keep hb48)
            replace X0 := X0.keep hb48
            replace X1 := X1.keep hb48
            replace X2 := X2.keep hb48
            replace Yw0 := Yw0.keep hb48
            replace Z0 := Z0.keep hb48
            replace Z1 := Z1.keep hb48
            replace Z2 := Z2.keep hb48
            replace Yg0 := Yg0.keep hb48
            replace w0 := w0.keep hb48
            replace xc0 := xc0.keep hb48
            replace xc1 := xc1.keep hb48
            replace xc2 := xc2.keep hb48
            replace g0 := g0.keep hb48
            replace h0a0 := h0a0.keep hb48
            replace h0a1 := h0a1.keep hb48
            replace B := B.trans (hb48.mono B.size)
            clear hb48 fh0a2_0
            (try dsimp only)
            refine hK.out _ _ ⟨X0, X1, X2⟩ (fun hS => ?_)
            clear hK K
            (try simp only [List.getElem_toArray]); (try simp only [List.getElem_cons_succ]); (try simp only [List.getElem_cons_zero]); (try simp only [Act.put]); (try simp only [List.setIfInBounds_toArray]); (try simp only [List.set_cons_succ]); (try simp only [List.set_cons_zero])
            refine wpAnyH_ready (rs := [6, 7]) (by kernel_rfl) (by simp) ?_
            refine AllReadyH.cons (o := _) rfl (fun K hK => ?_) (AllReadyH.cons (o := _) rfl (fun K hK => ?_) AllReadyH.nil)
            · rw [if_pos (by rfl)]
              go_simp
              go_at_call 20
              refine (HI.out _ _ _ _ (by exact h0a0.rd) (by exact h0a1.rd) (by exact h0a2.rd)).mono ?_
              rintro e w49 ⟨u, bh0_0, bh0_1, bh0_2, bh0_3, rfl, h0, fh0_0, fh0_1, fh0_2, fh0_3, hb49⟩
              obtain ⟨cs_h0, e_h0, R_h0⟩ := h0.row
              subst e_h0
              have F_h0 : ∀ y ∈ (bh0_0 ++ (bh0_1 ++ (bh0_2 ++ bh0_3))), w48.heap.size ≤ y := all_app fh0_0 (all_app fh0_1 (all_app fh0_2 fh0_3))
              (try have nbk_h0 : _ ∉ (bh0_0 ++ (bh0_1 ++ (bh0_2 ++ bh0_3))) := fun hm => Nat.not_lt.2 (F_h0 _ hm) NB.lt)
              have dj_w0_h0 : Dj (bw0_0 ++ (bw0_1 ++ (bw0_2 ++ bw0_3))) (bh0_0 ++ (bh0_1 ++ (bh0_2 ++ bh0_3))) := fun y hy hm => Nat.not_lt.2 (F_h0 y hm) (w0.lt y hy)
              have dj_xc0_h0 : Dj (bxc0_0 ++ (bxc0_1 ++ bxc0_2)) (bh0_0 ++ (bh0_1 ++ (bh0_2 ++ bh0_3))) := fun y hy hm => Nat.not_lt.2 (F_h0 y hm) (xc0.lt y hy)
              have dj_xc1_h0 : Dj bxc1_0 (bh0_0 ++ (bh0_1 ++ (bh0_2 ++ bh0_3))) := fun y hy hm => Nat.not_lt.2 (F_h0 y hm) (xc1.lt y hy)
              have dj_xc2_h0 : Dj bxc2_0 (bh0_0 ++ (bh0_1 ++ (bh0_2 ++ bh0_3))) := fun y hy hm => Nat.not_lt.2 (F_h0 y hm) (xc2.lt y hy)
              have dj_g0_h0 : Dj (bg0_0 ++ (bg0_1 ++ (bg0_2 ++ bg0_3))) (bh0_0 ++ (bh0_1 ++ (bh0_2 ++ bh0_3))) := fun y hy hm => Nat.not_lt.2 (F_h0 y hm) (g0.lt y hy)
              have dj_h0a0_h0 : Dj (bh0a0_0 ++ (bh0a0_1 ++ bh0a0_2)) (bh0_0 ++ (bh0_1 ++ (bh0_2 ++ bh0_3))) := fun y hy hm => Nat.not_lt.2 (F_h0 y hm) (h0a0.lt y hy)
              have dj_h0a1_h0 : Dj bh0a1_0 (bh0_0 ++ (bh0_1 ++ (bh0_2 ++ bh0_3))) := fun y hy hm => Nat.not_lt.2 (F_h0 y hm) (h0a1.lt y hy)
              have dj_h0a2_h0 : Dj bh0a2_0 (bh0_0 ++ (bh0_1 ++ (bh0_2 ++ bh0_3))) := fun y hy hm => Nat.not_lt.2 (F_h0 y hm) (h0a2.lt y hy)
              have nb_X0_h0 : w.heap.size ∉ (bh0_0 ++ (bh0_1 ++ (bh0_2 ++ bh0_3))) := fun hm => Nat.not_lt.2 (F_h0 _ hm) X0.lt
              have nb_X1_h0 : (w.heap.size + 1) ∉ (bh0_0 ++ (bh0_1 ++ (bh0_2 ++ bh0_3))) := fun hm => Nat.not_lt.2 (F_h0 _ hm) X1.lt
              have nb_X2_h0 : (w.heap.size + 1 + 1) ∉ (bh0_0 ++ (bh0_1 ++ (bh0_2 ++ bh0_3))) := fun hm => Nat.not_lt.2 (F_h0 _ hm) X2.lt
              have nb_Yw0_h0 : nbw0 ∉ (bh0_0 ++ (bh0_1 ++ (bh0_2 ++ bh0_3))) := fun hm => Nat.not_lt.2 (F_h0 _ hm) Yw0.lt
              have nb_Z0_h0 : w25.heap.size ∉ (bh0_0 ++ (bh0_1 ++ (bh0_2 ++ bh0_3))) := fun hm => Nat.not_lt.2 (F_h0 _ hm) Z0.lt
              have nb_Z1_h0 : w27.heap.size ∉ (bh0_0 ++ (bh0_1 ++ (bh0_2 ++ bh0_3))) := fun hm => Nat.not_lt.2 (F_h0 _ hm) Z1.lt
              have nb_Z2_h0 : w29.heap.size ∉ (bh0_0 ++ (bh0_1 ++ (bh0_2 ++ bh0_3))) := fun hm => Nat.not_lt.2 (F_h0 _ hm) Z2.lt
              have nb_Yg0_h0 : w31.heap.size ∉ (bh0_0 ++ (bh0_1 ++ (bh0_2 ++ bh0_3))) := fun hm => Nat.not_lt.2 (F_h0 _ hm) Yg0.lt
              have G_h0 : ∀ y ∈ (bh0_0 ++ (bh0_1 ++ (bh0_2 ++ bh0_3))), w.heap.size ≤ y := fun y hy => Nat.le_trans B.size (F_h0 y hy)
              clear F_h0
              (try replace NB := NB.keep hb49)
              replace X0 := X0.keep hb49
              replace X1 := X1.keep hb49
              replace X2 := X2.keep hb49
              replace Yw0 := Yw0.keep hb49
              replace Z0 := Z0.keep hb49
              replace Z1 := Z1.keep hb49
              replace Z2 := Z2.keep hb49
              replace Yg0 := Yg0.keep hb49
              replace w0 := w0.keep hb49
              replace xc0 := xc0.keep hb49
              replace xc1 := xc1.keep hb49
              replace xc2 := xc2.keep hb49
              replace g0 := g0.keep hb49
              replace h0a0 := h0a0.keep hb49
              replace h0a1 := h0a1.keep hb49
              replace h0a2 := h0a2.keep hb49
              replace B := B.trans (hb49.mono B.size)
              clear hb49 fh0_0 fh0_1 fh0_2 fh0_3
              (try dsimp only)
              refine hK.out _ _ ⟨X0, X1, X2⟩ (fun hS => ?_)
              clear hK K
              (try simp only [List.getElem_toArray]); (try simp only [List.getElem_cons_succ]); (try simp only [List.getElem_cons_zero]); (try simp only [Act.put]); (try simp only [List.setIfInBounds_toArray]); (try simp only [List.set_cons_succ]); (try simp only [List.set_cons_zero])
              refine wpAnyH_ready (rs := [7]) (by kernel_rfl) (by simp) ?_
              refine AllReadyH.cons (o := _) rfl (fun K hK => ?_) AllReadyH.nil
              rw [if_pos (by rfl)]
              go_simp
              have nbx_X0 : w.heap.size ≠ w49.heap.size := Nat.ne_of_lt X0.lt
              have nbx_X1 : (w.heap.size + 1) ≠ w49.heap.size := Nat.ne_of_lt X1.lt
              have nbx_X2 : (w.heap.size + 1 + 1) ≠ w49.heap.size := Nat.ne_of_lt X2.lt
              have nbx_Yw0 : nbw0 ≠ w49.heap.size := Nat.ne_of_lt Yw0.lt
              have nbx_Z0 : w25.heap.size ≠ w49.heap.size := Nat.ne_of_lt Z0.lt
              have nbx_Z1 : w27.heap.size ≠ w49.heap.size := Nat.ne_of_lt Z1.lt
              have nbx_Z2 : w29.heap.size ≠ w49.heap.size := Nat.ne_of_lt Z2.lt
              have nbx_Yg0 : w31.heap.size ≠ w49.heap.size := Nat.ne_of_lt Yg0.lt
              have nbk_w0 : w49.heap.size ∉ (bw0_0 ++ (bw0_1 ++ (bw0_2 ++ bw0_3))) := fun hm => Nat.lt_irrefl _ (w0.lt _ hm)
              have nbk_xc0 : w49.heap.size ∉ (bxc0_0 ++ (bxc0_1 ++ bxc0_2)) := fun hm => Nat.lt_irrefl _ (xc0.lt _ hm)
              have nbk_xc1 : w49.heap.size ∉ bxc1_0 := fun hm => Nat.lt_irrefl _ (xc1.lt _ hm)
              have nbk_xc2 : w49.heap.size ∉ bxc2_0 := fun hm => Nat.lt_irrefl _ (xc2.lt _ hm)
              have nbk_g0 : w49.heap.size ∉ (bg0_0 ++ (bg0_1 ++ (bg0_2 ++ bg0_3))) := fun hm => Nat.lt_irrefl _ (g0.lt _ hm)
              have nbk_h0a0 : w49.heap.size ∉ (bh0a0_0 ++ (bh0a0_1 ++ bh0a0_2)) := fun hm => Nat.lt_irrefl _ (h0a0.lt _ hm)
              have nbk_h0a1 : w49.heap.size ∉ bh0a1_0 := fun hm => Nat.lt_irrefl _ (h0a1.lt _ hm)
              have nbk_h0a2 : w49.heap.size ∉ bh0a2_0 := fun hm => Nat.lt_irrefl _ (h0a2.lt _ hm)
              have nbk_h0 : w49.heap.size ∉ (bh0_0 ++ (bh0_1 ++ (bh0_2 ++ bh0_3))) := fun hm => Nat.lt_irrefl _ (h0.lt _ hm)
              replace X0 := X0.alloc (.cells #[.int .i64 0, .int .i64 0, .slice none 0 0, .slice none 0 0, .slice none 0 0, .int .i64 0, .slice none 0 0, .int .i64 0, .int .i64 0, .int .i64 0, .bool false, .bool false, .int .i64 0, .int .i64 0, .int .i64 0, .int .i64 0, .int .i64 0, .int .i64 0, .int .i64 0] 43)
              replace X1 := X1.alloc (.cells #[.int .i64 0, .int .i64 0, .slice none 0 0, .slice none 0 0, .slice none 0 0, .int .i64 0, .slice none 0 0, .int .i64 0, .int .i64 0, .int .i64 0, .bool false, .bool false, .int .i64 0, .int .i64 0, .int .i64 0, .int .i64 0, .int .i64 0, .int .i64 0, .int .i64 0] 43)
              replace X2 := X2.alloc (.cells #[.int .i64 0, .int .i64 0, .slice none 0 0, .slice none 0 0, .slice none 0 0, .int .i64 0, .slice none 0 0, .int .i64 0, .int .i64 0, .int .i64 0, .bool false, .bool false, .int .i64 0, .int .i64 0, .int .i64 0, .int .i64 0, .int .i64 0, .int .i64 0, .int .i64 0] 43)
              replace Yw0 := Yw0.alloc (.cells #[.int .i64 0, .int .i64 0, .slice none 0 0, .slice none 0 0, .slice none 0 0, .int .i64 0, .slice none 0 0, .int .i64 0, .int .i64 0, .int .i64 0, .bool false, .bool false, .int .i64 0, .int .i64 0, .int .i64 0, .int .i64 0, .int .i64 0, .int .i64 0, .int .i64 0] 43)
              replace Z0 := Z0.alloc (.cells #[.int .i64 0, .int .i64 0, .slice none 0 0, .slice none 0 0, .slice none 0 0, .int .i64 0, .slice none 0 0, .int .i64 0, .int .i64 0, .int .i64 0, .bool false, .bool false, .int .i64 0, .int .i64 0, .int .i64 0, .int .i64 0, .int .i64 0, .int .i64 0, .int .i64 0] 43)
              replace Z1 := Z1.alloc (.cells #[.int .i64 0, .int .i64 0, .slice none 0 0, .slice none 0 0, .slice none 0 0, .int .i64 0, .slice none 0 0, .int .i64 0, .int .i64 0, .int .i64 0, .bool false, .bool false, .int .i64 0, .int .i64 0, .int .i64 0, .int .i64 0, .int .i64 0, .int .i64 0, .int .i64 0] 43)
              replace Z2 := Z2.alloc (.cells #[.int .i64 0, .int .i64 0, .slice none 0 0, .slice none 0 0, .slice none 0 0, .int .i64 0, .slice none 0 0, .int .i64 0, .int .i64 0, .int .i64 0, .bool false, .bool false, .int .i64 0, .int .i64 0, .int .i64 0, .int .i64 0, .int .i64 0, .int .i64 0, .int .i64 0] 43)
              replace Yg0 := Yg0.alloc (.cells #[.int .i64 0, .int .i64 0, .slice none 0 0, .slice none 0 0, .slice none 0 0, .int .i64 0, .slice none 0 0, .int .i64 0, .int .i64 0, .int .i64 0, .bool false, .bool false, .int .i64 0, .int .i64 0, .int .i64 0, .int .i64 0, .int .i64 0, .int .i64 0, .int .i64 0] 43)
              replace w0 := w0.alloc (.cells #[.int .i64 0, .int .i64 0, .slice none 0 0, .slice none 0 0, .slice none 0 0, .int .i64 0, .slice none 0 0, .int .i64 0, .int .i64 0, .int .i64 0, .bool false, .bool false, .int .i64 0, .int .i64 0, .int .i64 0, .int .i64 0, .int .i64 0, .int .i64 0, .int .i64 0] 43)
              replace xc0 := xc0.alloc (.cells #[.int .i64 0, .int .i64 0, .slice none 0 0, .slice none 0 0, .slice none 0 0, .int .i64 0, .slice none 0 0, .int .i64 0, .int .i64 0, .int .i64 0, .bool false, .bool false, .int .i64 0, .int .i64 0, .int .i64 0, .int .i64 0, .int .i64 0, .int .i64 0, .int .i64 0] 43)
              replace xc1 := xc1.alloc (.cells #[.int .i64 0, .int .i64 0, .slice none 0 0, .slice none 0 0, .slice none 0 0, .int .i64 0, .slice none 0 0, .int .i64 0, .int .i64 0, .int .i64 0, .bool false, .bool false, .int .i64 0, .int .i64 0, .int .i64 0, .int .i64 0, .int .i64 0, .int .i64 0, .int .i64 0] 43)
              replace xc2 := xc2.alloc (.cells #[.int .i64 0, .int .i64 0, .slice none 0 0, .slice none 0 0, .slice none 0 0, .int .i64 0, .slice none 0 0, .int .i64 0, .int .i64 0, .int .i64 0, .bool false, .bool false, .int .i64 0, .int .i64 0, .int .i64 0, .int .i64 0, .int .i64 0, .int .i64 0, .int .i64 0] 43)
              replace g0 := g0.alloc (.cells #[.int .i64 0, .int .i64 0, .slice none 0 0, .slice none 0 0, .slice none 0 0, .int .i64 0, .slice none 0 0, .int .i64 0, .int .i64 0, .int .i64 0, .bool false, .bool false, .int .i64 0, .int .i64 0, .int .i64 0, .int .i64 0, .int .i64 0, .int .i64 0, .int .i64 0] 43)
              replace h0a0 := h0a0.alloc (.cells #[.int .i64 0, .int .i64 0, .slice none 0 0, .slice none 0 0, .slice none 0 0, .int .i64 0, .slice none 0 0, .int .i64 0, .int .i64 0, .int .i64 0, .bool false, .bool false, .int .i64 0, .int .i64 0, .int .i64 0, .int .i64 0, .int .i64 0, .int .i64 0, .int .i64 0] 43)
              replace h0a1 := h0a1.alloc (.cells #[.int .i64 0, .int .i64 0, .slice none 0 0, .slice none 0 0, .slice none 0 0, .int .i64 0, .slice none 0 0, .int .i64 0, .int .i64 0, .int .i64 0, .bool false, .bool false, .int .i64 0, .int .i64 0, .int .i64 0, .int .i64 0, .int .i64 0, .int .i64 0, .int .i64 0] 43)
              replace h0a2 := h0a2.alloc (.cells #[.int .i64 0, .int .i64 0, .slice none 0 0, .slice none 0 0, .slice none 0 0, .int .i64 0, .slice none 0 0, .int .i64 0, .int .i64 0, .int .i64 0, .bool false, .bool false, .int .i64 0, .int .i64 0, .int .i64 0, .int .i64 0, .int .i64 0, .int .i64 0, .int .i64 0] 43)
              replace h0 := h0.alloc (.cells #[.int .i64 0, .int .i64 0, .slice none 0 0, .slice none 0 0, .slice none 0 0, .int .i64 0, .slice none 0 0, .int .i64 0, .int .i64 0, .int .i64 0, .bool false, .bool false, .int .i64 0, .int .i64 0, .int .i64 0, .int .i64 0, .int .i64 0, .int .i64 0, .int .i64 0] 43)
              have NB := Blk.new w49 43 #[.int .i64 0, .int .i64 0, .slice none 0 0, .slice none 0 0, .slice none 0 0, .int .i64 0, .slice none 0 0, .int .i64 0, .int .i64 0, .int .i64 0, .bool false, .bool false, .int .i64 0, .int .i64 0, .int .i64 0, .int .i64 0, .int .i64 0, .int .i64 0, .int .i64 0]
              have gNB : w.heap.size ≤ w49.heap.size := B.size
              replace B := B.alloc B.size (.cells #[.int .i64 0, .int .i64 0, .slice none 0 0, .slice none 0 0, .slice none 0 0, .int .i64 0, .slice none 0 0, .int .i64 0, .int .i64 0, .int .i64 0, .bool false, .bool false, .int .i64 0, .int .i64 0, .int .i64 0, .int .i64 0, .int .i64 0, .int .i64 0, .int .i64 0] 43)
              refine hK.out _ _ ⟨X0, X1, X2⟩ (fun hS => ?_)
              clear hK K
              (try simp only [List.getElem_toArray]); (try simp only [List.getElem_cons_succ]); (try simp only [List.getElem_cons_zero]); (try simp only [Act.put]); (try simp only [List.setIfInBounds_toArray]); (try simp only [List.set_cons_succ]); (try simp only [List.set_cons_zero])
              refine wpAnyH_ready (rs := [8]) (by kernel_rfl) (by simp) ?_
              refine AllReadyH.cons (o := _) rfl (fun K hK => ?_) AllReadyH.nil
              refine step_store_blk rfl 43 _ _ rfl w49.heap.size cs_h0 rfl rfl NB (by rw [R_h0.1]; rfl) (R_h0.hi (by kernel_rfl)) R_h0.2 ?_
              intro wE YE OE
              refine hK.out _ _ ⟨(X0.off OE (fun hm => nbx_X0 (List.mem_singleton.1 hm))), (X1.off OE (fun hm => nbx_X1 (List.mem_singleton.1 hm))), (X2.off OE (fun hm => nbx_X2 (List.mem_singleton.1 hm)))⟩ (fun hS => ?_)
              clear hK K
              (try simp only [List.getElem_toArray]); (try simp only [List.getElem_cons_succ]); (try simp only [List.getElem_cons_zero]); (try simp only [Act.put]); (try simp only [List.setIfInBounds_toArray]); (try simp only [List.set_cons_succ]); (try simp only [List.set_cons_zero])
              refine wpAnyH_done (by kernel_rfl) ?_ _
              have FIN : ∃ nz cs_h0 bh0_0 bh0_1 bh0_2 bh0_3, (Value.pointer (some ⟨w49.heap.size, 0, none⟩)) = .pointer (some ⟨nz, 0, none⟩) ∧ Blk wE w.heap.size 31 cs0 ∧ Blk wE (w.heap.size + 1) 33 cs1 ∧ Blk wE (w.heap.size + 1 + 1) 33 cs2 ∧ Blk wE nbw0 43 cs_w0 ∧ Blk wE w25.heap.size 41 cs_xc0 ∧ Blk wE w27.heap.size 36 cs_xc1 ∧ Blk wE w29.heap.size 36 cs_xc2 ∧ Blk wE w31.heap.size 43 cs_g0 ∧ Below w.heap.size w wE ∧ OwMixResult wE (.agg cs_w0) r bw0_0 bw0_1 bw0_2 bw0_3 ∧ OwNet wE (.agg cs_xc0) (mkNet 1 x0) bxc0_0 bxc0_1 bxc0_2 ∧ OwMirror wE (.agg cs_xc1) (mkMirror (1 + (cntNet x0 : Nat)) x1) bxc1_0 ∧ OwMirror wE (.agg cs_xc2) (mkMirror (1 + (cntNet x0 : Nat) + (cntMirror x1 : Nat)) x2) bxc2_0 ∧ OwMixResult wE (.agg cs_g0) (mkMixResult 1 r) bg0_0 bg0_1 bg0_2 bg0_3 ∧ OwMixResult wE (.agg cs_h0) r bh0_0 bh0_1 bh0_2 bh0_3 ∧ Rw 19 cs_h0 ∧ Blk wE nz 43 cs_h0 ∧ Dj (bw0_0 ++ (bw0_1 ++ (bw0_2 ++ bw0_3))) (bh0_0 ++ (bh0_1 ++ (bh0_2 ++ bh0_3))) ∧ Dj (bxc0_0 ++ (bxc0_1 ++ bxc0_2)) (bh0_0 ++ (bh0_1 ++ (bh0_2 ++ bh0_3))) ∧ Dj bxc1_0 (bh0_0 ++ (bh0_1 ++ (bh0_2 ++ bh0_3))) ∧ Dj bxc2_0 (bh0_0 ++ (bh0_1 ++ (bh0_2 ++ bh0_3))) ∧ Dj (bg0_0 ++ (bg0_1 ++ (bg0_2 ++ bg0_3))) (bh0_0 ++ (bh0_1 ++ (bh0_2 ++ bh0_3))) ∧ w.heap.size ∉ (bh0_0 ++ (bh0_1 ++ (bh0_2 ++ bh0_3))) ∧ (w.heap.size + 1) ∉ (bh0_0 ++ (bh0_1 ++ (bh0_2 ++ bh0_3))) ∧ (w.heap.size + 1 + 1) ∉ (bh0_0 ++ (bh0_1 ++ (bh0_2 ++ bh0_3))) ∧ nbw0 ∉ (bh0_0 ++ (bh0_1 ++ (bh0_2 ++ bh0_3))) ∧ w25.heap.size ∉ (bh0_0 ++ (bh0_1 ++ (bh0_2 ++ bh0_3))) ∧ w27.heap.size ∉ (bh0_0 ++ (bh0_1 ++ (bh0_2 ++ bh0_3))) ∧ w29.heap.size ∉ (bh0_0 ++ (bh0_1 ++ (bh0_2 ++ bh0_3))) ∧ w31.heap.size ∉ (bh0_0 ++ (bh0_1 ++ (bh0_2 ++ bh0_3))) ∧ (∀ y ∈ (bh0_0 ++ (bh0_1 ++ (bh0_2 ++ bh0_3))), w.heap.size ≤ y) ∧ nz ∉ (bw0_0 ++ (bw0_1 ++ (bw0_2 ++ bw0_3))) ∧ nz ∉ (bxc0_0 ++ (bxc0_1 ++ bxc0_2)) ∧ nz ∉ bxc1_0 ∧ nz ∉ bxc2_0 ∧ nz ∉ (bg0_0 ++ (bg0_1 ++ (bg0_2 ++ bg0_3))) ∧ nz ∉ (bh0_0 ++ (bh0_1 ++ (bh0_2 ++ bh0_3))) := ⟨w49.heap.size, cs_h0, bh0_0, bh0_1, bh0_2, bh0_3, rfl, X0.off OE (fun hm => nbx_X0 (List.mem_singleton.1 hm)), X1.off OE (fun hm => nbx_X1 (List.mem_singleton.1 hm)), X2.off OE (fun hm => nbx_X2 (List.mem_singleton.1 hm)), Yw0.off OE (fun hm => nbx_Yw0 (List.mem_singleton.1 hm)), Z0.off OE (fun hm => nbx_Z0 (List.mem_singleton.1 hm)), Z1.off OE (fun hm => nbx_Z1 (List.mem_singleton.1 hm)), Z2.off OE (fun hm => nbx_Z2 (List.mem_singleton.1 hm)), Yg0.off OE (fun hm => nbx_Yg0 (List.mem_singleton.1 hm)), B.trans (OE.toBelow B.size (fun y hy => by rw [List.mem_singleton.1 hy]; exact gNB)), w0.off OE (fun y hy hm => nbk_w0 (by have e := List.mem_singleton.1 hm; subst e; exact hy)), xc0.off OE (fun y hy hm => nbk_xc0 (by have e := List.mem_singleton.1 hm; subst e; exact hy)), xc1.off OE (fun y hy hm => nbk_xc1 (by have e := List.mem_singleton.1 hm; subst e; exact hy)), xc2.off OE (fun y hy hm => nbk_xc2 (by have e := List.mem_singleton.1 hm; subst e; exact hy)), g0.off OE (fun y hy hm => nbk_g0 (by have e := List.mem_singleton.1 hm; subst e; exact hy)), h0.off OE (fun y hy hm => nbk_h0 (by have e := List.mem_singleton.1 hm; subst e; exact hy)), R_h0, YE, dj_w0_h0, dj_xc0_h0, dj_xc1_h0, dj_xc2_h0, dj_g0_h0, nb_X0_h0, nb_X1_h0, nb_X2_h0, nb_Yw0_h0, nb_Z0_h0, nb_Z1_h0, nb_Z2_h0, nb_Yg0_h0, G_h0, nbk_w0, nbk_xc0, nbk_xc1, nbk_xc2, nbk_g0, nbk_h0⟩
              go_wp2
              go_meet
              case rel => exact FIN
            · rw [if_pos (by rfl)]
              go_simp
              have nbx_X0 : w.heap.size ≠ w48.heap.size := Nat.ne_of_lt X0.lt
              have nbx_X1 : (w.heap.size + 1) ≠ w48.heap.size := Nat.ne_of_lt X1.lt
              have nbx_X2 : (w.heap.size + 1 + 1) ≠ w48.heap.size := Nat.ne_of_lt X2.lt
              have nbx_Yw0 : nbw0 ≠ w48.heap.size := Nat.ne_of_lt Yw0.lt
              have nbx_Z0 : w25.heap.size ≠ w48.heap.size := Nat.ne_of_lt Z0.lt
              have nbx_Z1 : w27.heap.size ≠ w48.heap.size := Nat.ne_of_lt Z1.lt
              have nbx_Z2 : w29.heap.size ≠ w48.heap.size := Nat.ne_of_lt Z2.lt
              have nbx_Yg0 : w31.heap.size ≠ w48.heap.size := Nat.ne_of_lt Yg0.lt
              have nbk_w0 : w48.heap.size ∉ (bw0_0 ++ (bw0_1 ++ (bw0_2 ++ bw0_3))) := fun hm => Nat.lt_irrefl _ (w0.lt _ hm)
              have nbk_xc0 : w48.heap.size ∉ (bxc0_0 ++ (bxc0_1 ++ bxc0_2)) := fun hm => Nat.lt_irrefl _ (xc0.lt _ hm)
              have nbk_xc1 : w48.heap.size ∉ bxc1_0 := fun hm => Nat.lt_irrefl _ (xc1.lt _ hm)
              have nbk_xc2 : w48.heap.size ∉ bxc2_0 := fun hm => Nat.lt_irrefl _ (xc2.lt _ hm)
              have nbk_g0 : w48.heap.size ∉ (bg0_0 ++ (bg0_1 ++ (bg0_2 ++ bg0_3))) := fun hm => Nat.lt_irrefl _ (g0.lt _ hm)
              have nbk_h0a0 : w48.heap.size ∉ (bh0a0_0 ++ (bh0a0_1 ++ bh0a0_2)) := fun hm => Nat.lt_irrefl _ (h0a0.lt _ hm)
              have nbk_h0a1 : w48.heap.size ∉ bh0a1_0 := fun hm => Nat.lt_irrefl _ (h0a1.lt _ hm)
              have nbk_h0a2 : w48.heap.size ∉ bh0a2_0 := fun hm => Nat.lt_irrefl _ (h0a2.lt _ hm)
              replace X0 := X0.alloc (.cells #[.int .i64 0, .int .i64 0, .slice none 0 0, .slice none 0 0, .slice none 0 0, .int .i64 0, .slice none 0 0, .int .i64 0, .int .i64 0, .int .i64 0, .bool false, .bool false, .int .i64 0, .int .i64 0, .int .i64 0, .int .i64 0, .int .i64 0, .int .i64 0, .int .i64 0] 43)
              replace X1 := X1.alloc (.cells #[.int .i64 0, .int .i64 0, .slice none 0 0, .slice none 0 0, .slice none 0 0, .int .i64 0, .slice none 0 0, .int .i64 0, .int .i64 0, .int .i64 0, .bool false, .bool false, .int .i64 0, .int .i64 0, .int .i64 0, .int .i64 0, .int .i64 0, .int .i64 0, .int .i64 0] 43)
              replace X2 := X2.alloc (.cells #[.int .i64 0, .int .i64 0, .slice none 0 0, .slice none 0 0, .slice none 0 0, .int .i64 0, .slice none 0 0, .int .i64 0, .int .i64 0, .int .i64 0, .bool false, .bool false, .int .i64 0, .int .i64 0, .int .i64 0, .int .i64 0, .int .i64 0, .int .i64 0, .int .i64 0] 43)
              replace Yw0 := Yw0.alloc (.cells #[.int .i64 0, .int .i64 0, .slice none 0 0, .slice none 0 0, .slice none 0 0, .int .i64 0, .slice none 0 0, .int .i64 0, .int .i64 0, .int .i64 0, .bool false, .bool false, .int .i64 0, .int .i64 0, .int .i64 0, .int .i64 0, .int .i64 0, .int .i64 0, .int .i64 0] 43)
              replace Z0 := Z0.alloc (.cells #[.int .i64 0, .int .i64 0, .slice none 0 0, .slice none 0 0, .slice none 0 0, .int .i64 0, .slice none 0 0, .int .i64 0, .int .i64 0, .int .i64 0, .bool false, .bool false, .int .i64 0, .int .i64 0, .int .i64 0, .int .i64 0, .int .i64 0, .int .i64 0, .int .i64 0] 43)
              replace Z1 := Z1.alloc (.cells #[.int .i64 0, .int .i64 0, .slice none 0 0, .slice none 0 0, .slice none 0 0, .int .i64 0, .slice none 0 0, .int .i64 0, .int .i64 0, .int .i64 0, .bool false, .bool false, .int .i64 0, .int .i64 0, .int .i64 0, .int .i64 0, .int .i64 0, .int .i64 0, .int .i64 0] 43)
              replace Z2 := Z2.alloc (.cells #[.int .i64 0, .int .i64 0, .slice none 0 0, .slice none 0 0, .slice none 0 0, .int .i64 0, .slice none 0 0, .int .i64 0, .int .i64 0, .int .i64 0, .bool false, .bool false, .int .i64 0, .int .i64 0, .int .i64 0, .int .i64 0, .int .i64 0, .int .i64 0, .int .i64 0] 43)
              replace Yg0 := Yg0.alloc (.cells #[.int .i64 0, .int .i64 0, .slice none 0 0, .slice none 0 0, .slice none 0 0, .int .i64 0, .slice none 0 0, .int .i64 0, .int .i64 0, .int .i64 0, .bool false, .bool false, .int .i64 0, .int .i64 0, .int .i64 0, .int .i64 0, .int .i64 0, .int .i64 0, .int .i64 0] 43)
              replace w0 := w0.alloc (.cells #[.int .i64 0, .int .i64 0, .slice none 0 0, .slice none 0 0, .slice none 0 0, .int .i64 0, .slice none 0 0, .int .i64 0, .int .i64 0, .int .i64 0, .bool false, .bool false, .int .i64 0, .int .i64 0, .int .i64 0, .int .i64 0, .int .i64 0, .int .i64 0, .int .i64 0] 43)
              replace xc0 := xc0.alloc (.cells #[.int .i64 0, .int .i64 0, .slice none 0 0, .slice none 0 0, .slice none 0 0, .int .i64 0, .slice none 0 0, .int .i64 0, .int .i64 0, .int .i64 0, .bool false, .bool false, .int .i64 0, .int .i64 0, .int .i64 0, .int .i64 0, .int .i64 0, .int .i64 0, .int .i64 0] 43)
              replace xc1 := xc1.alloc (.cells #[.int .i64 0, .int .i64 0, .slice none 0 0, .slice none 0 0, .slice none 0 0, .int .i64 0, .slice none 0 0, .int .i64 0, .int .i64 0, .int .i64 0, .bool false, .bool false, .int .i64 0, .int .i64 0, .int .i64 0, .int .i64 0, .int .i64 0, .int .i64 0, .int .i64 0] 43)
              replace xc2 := xc2.alloc (.cells #[.int .i64 0, .int .i64 0, .slice none 0 0, .slice none 0 0, .slice none 0 0, .int .i64 0, .slice none 0 0, .int .i64 0, .int .i64 0, .int .i64 0, .bool false, .bool false, .int .i64 0, .int .i64 0, .int .i64 0, .int .i64 0, .int .i64 0, .int .i64 0, .int .i64 0] 43)
              replace g0 := g0.alloc (.cells #[.int .i64 0, .int .i64 0, .slice none 0 0, .slice none 0 0, .slice none 0 0, .int .i64 0, .slice none 0 0, .int .i64 0, .int .i64 0, .int .i64 0, .bool false, .bool false, .int .i64 0, .int .i64 0, .int .i64 0, .int .i64 0, .int .i64 0, .int .i64 0, .int .i64 0] 43)
              replace h0a0 := h0a0.alloc (.cells #[.int .i64 0, .int .i64 0, .slice none 0 0, .slice none 0 0, .slice none 0 0, .int .i64 0, .slice none 0 0, .int .i64 0, .int .i64 0, .int .i64 0, .bool false, .bool false, .int .i64 0, .int .i64 0, .int .i64 0, .int .i64 0, .int .i64 0, .int .i64 0, .int .i64 0] 43)
              replace h0a1 := h0a1.alloc (.cells #[.int .i64 0, .int .i64 0, .slice none 0 0, .slice none 0 0, .slice none 0 0, .int .i64 0, .slice none 0 0, .int .i64 0, .int .i64 0, .int .i64 0, .bool false, .bool false, .int .i64 0, .int .i64 0, .int .i64 0, .int .i64 0, .int .i64 0, .int .i64 0, .int .i64 0] 43)
              replace h0a2 := h0a2.alloc (.cells #[.int .i64 0, .int .i64 0, .slice none 0 0, .slice none 0 0, .slice none 0 0, .int .i64 0, .slice none 0 0, .int .i64 0, .int .i64 0, .int .i64 0, .bool false, .bool false, .int .i64 0, .int .i64 0, .int .i64 0, .int .i64 0, .int .i64 0, .int .i64 0, .int .i64 0] 43)
              have NB := Blk.new w48 43 #[.int .i64 0, .int .i64 0, .slice none 0 0, .slice none 0 0, .slice none 0 0, .int .i64 0, .slice none 0 0, .int .i64 0, .int .i64 0, .int .i64 0, .bool false, .bool false, .int .i64 0, .int .i64 0, .int .i64 0, .int .i64 0, .int .i64 0, .int .i64 0, .int .i64 0]
              have gNB : w.heap.size ≤ w48.heap.size := B.size
              replace B := B.alloc B.size (.cells #[.int .i64 0, .int .i64 0, .slice none 0 0, .slice none 0 0, .slice none 0 0, .int .i64 0, .slice none 0 0, .int .i64 0, .int .i64 0, .int .i64 0, .bool false, .bool false, .int .i64 0, .int .i64 0, .int .i64 0, .int .i64 0, .int .i64 0, .int .i64 0, .int .i64 0] 43)
              refine hK.out _ _ ⟨X0, X1, X2⟩ (fun hS => ?_)
              clear hK K
              (try simp only [List.getElem_toArray]); (try simp only [List.getElem_cons_succ]); (try simp only [List.getElem_cons_zero]); (try simp only [Act.put]); (try simp only [List.setIfInBounds_toArray]); (try simp only [List.set_cons_succ]); (try simp only [List.set_cons_zero])
              refine wpAnyH_ready (rs := [6]) (by kernel_rfl) (by simp) ?_
              refine AllReadyH.cons (o := _) rfl (fun K hK => ?_) AllReadyH.nil
              rw [if_pos (by rfl)]
              go_simp
              go_at_call 20
              refine (HI.out _ _ _ _ (by exact h0a0.rd) (by exact h0a1.rd) (by exact h0a2.rd)).mono ?_
              rintro e w50 ⟨u, bh0_0, bh0_1, bh0_2, bh0_3, rfl, h0, fh0_0, fh0_1, fh0_2, fh0_3, hb50⟩
              obtain ⟨cs_h0, e_h0, R_h0⟩ := h0.row
              subst e_h0
              have F_h0 : ∀ y ∈ (bh0_0 ++ (bh0_1 ++ (bh0_2 ++ bh0_3))), (w48.alloc (.cells #[.int .i64 0, .int .i64 0, .slice none 0 0, .slice none 0 0, .slice none 0 0, .int .i64 0, .slice none 0 0, .int .i64 0, .int .i64 0, .int .i64 0, .bool false, .bool false, .int .i64 0, .int .i64 0, .int .i64 0, .int .i64 0, .int .i64 0, .int .i64 0, .int .i64 0] 43)).heap.size ≤ y := all_app fh0_0 (all_app fh0_1 (all_app fh0_2 fh0_3))
              (try have nbk_h0 : _ ∉ (bh0_0 ++ (bh0_1 ++ (bh0_2 ++ bh0_3))) := fun hm => Nat.not_lt.2 (F_h0 _ hm) NB.lt)
              have dj_w0_h0 : Dj (bw0_0 ++ (bw0_1 ++ (bw0_2 ++ bw0_3))) (bh0_0 ++ (bh0_1 ++ (bh0_2 ++ bh0_3))) := fun y hy hm => Nat.not_lt.2 (F_h0 y hm) (w0.lt y hy)
              have dj_xc0_h0 : Dj (bxc0_0 ++ (bxc0_1 ++ bxc0_2)) (bh0_0 ++ (bh0_1 ++ (bh0_2 ++ bh0_3))) := fun y hy hm => Nat.not_lt.2 (F_h0 y hm) (xc0.lt y hy)
              have dj_xc1_h0 : Dj bxc1_0 (bh0_0 ++ (bh0_1 ++ (bh0_2 ++ bh0_3))) := fun y hy hm => Nat.not_lt.2 (F_h0 y hm) (xc1.lt y hy)
              have dj_xc2_h0 : Dj bxc2_0 (bh0_0 ++ (bh0_1 ++ (bh0_2 ++ bh0_3))) := fun y hy hm => Nat.not_lt.2 (F_h0 y hm) (xc2.lt y hy)
              have dj_g0_h0 : Dj (bg0_0 ++ (bg0_1 ++ (bg0_2 ++ bg0_3))) (bh0_0 ++ (bh0_1 ++ (bh0_2 ++ bh0_3))) := fun y hy hm => Nat.not_lt.2 (F_h0 y hm) (g0.lt y hy)
              have dj_h0a0_h0 : Dj (bh0a0_0 ++ (bh0a0_1 ++ bh0a0_2)) (bh0_0 ++ (bh0_1 ++ (bh0_2 ++ bh0_3))) := fun y hy hm => Nat.not_lt.2 (F_h0 y hm) (h0a0.lt y hy)
              have dj_h0a1_h0 : Dj bh0a1_0 (bh0_0 ++ (bh0_1 ++ (bh0_2 ++ bh0_3))) := fun y hy hm => Nat.not_lt.2 (F_h0 y hm) (h0a1.lt y hy)
              have dj_h0a2_h0 : Dj bh0a2_0 (bh0_0 ++ (bh0_1 ++ (bh0_2 ++ bh0_3))) := fun y hy hm => Nat.not_lt.2 (F_h0 y hm) (h0a2.lt y hy)
              have nb_X0_h0 : w.heap.size ∉ (bh0_0 ++ (bh0_1 ++ (bh0_2 ++ bh0_3))) := fun hm => Nat.not_lt.2 (F_h0 _ hm) X0.lt
              have nb_X1_h0 : (w.heap.size + 1) ∉ (bh0_0 ++ (bh0_1 ++ (bh0_2 ++ bh0_3))) := fun hm => Nat.not_lt.2 (F_h0 _ hm) X1.lt
              have nb_X2_h0 : (w.heap.size + 1 + 1) ∉ (bh0_0 ++ (bh0_1 ++ (bh0_2 ++ bh0_3))) := fun hm => Nat.not_lt.2 (F_h0 _ hm) X2.lt
              have nb_Yw0_h0 : nbw0 ∉ (bh0_0 ++ (bh0_1 ++ (bh0_2 ++ bh0_3))) := fun hm => Nat.not_lt.2 (F_h0 _ hm) Yw0.lt
              have nb_Z0_h0 : w25.heap.size ∉ (bh0_0 ++ (bh0_1 ++ (bh0_2 ++ bh0_3))) := fun hm => Nat.not_lt.2 (F_h0 _ hm) Z0.lt
              have nb_Z1_h0 : w27.heap.size ∉ (bh0_0 ++ (bh0_1 ++ (bh0_2 ++ bh0_3))) := fun hm => Nat.not_lt.2 (F_h0 _ hm) Z1.lt
              have nb_Z2_h0 : w29.heap.size ∉ (bh0_0 ++ (bh0_1 ++ (bh0_2 ++ bh0_3))) := fun hm => Nat.not_lt.2 (F_h0 _ hm) Z2.lt
              have nb_Yg0_h0 : w31.heap.size ∉ (bh0_0 ++ (bh0_1 ++ (bh0_2 ++ bh0_3))) := fun hm => Nat.not_lt.2 (F_h0 _ hm) Yg0.lt
              have G_h0 : ∀ y ∈ (bh0_0 ++ (bh0_1 ++ (bh0_2 ++ bh0_3))), w.heap.size ≤ y := fun y hy => Nat.le_trans B.size (F_h0 y hy)
              clear F_h0
              (try replace NB := NB.keep hb50)
              replace X0 := X0.keep hb50
              replace X1 := X1.keep hb50
              replace X2 := X2.keep hb50
              replace Yw0 := Yw0.keep hb50
              replace Z0 := Z0.keep hb50
              replace Z1 := Z1.keep hb50
              replace Z2 := Z2.keep hb50
              replace Yg0 := Yg0.keep hb50
              replace w0 := w0.keep hb50
              replace xc0 := xc0.keep hb50
              replace xc1 := xc1.keep hb50
              replace xc2 := xc2.keep hb50
              replace g0 := g0.keep hb50
              replace h0a0 := h0a0.keep hb50
              replace h0a1 := h0a1.keep hb50
              replace h0a2 := h0a2.keep hb50
              replace B := B.trans (hb50.mono B.size)
              clear hb50 fh0_0 fh0_1 fh0_2 fh0_3
              (try dsimp only)
              refine hK.out _ _ ⟨X0, X1, X2⟩ (fun hS => ?_)
              clear hK K
              (try simp only [List.getElem_toArray]); (try simp only [List.getElem_cons_succ]); (try simp only [List.getElem_cons_zero]); (try simp only [Act.put]); (try simp only [List.setIfInBounds_toArray]); (try simp only [List.set_cons_succ]); (try simp only [List.set_cons_zero])
              refine wpAnyH_ready (rs := [8]) (by kernel_rfl) (by simp) ?_
              refine AllReadyH.cons (o := _) rfl (fun K hK => ?_) AllReadyH.nil
              refine step_store_blk rfl 43 _ _ rfl w48.heap.size cs_h0 rfl rfl NB (by rw [R_h0.1]; rfl) (R_h0.hi (by kernel_rfl)) R_h0.2 ?_
              intro wE YE OE
              refine hK.out _ _ ⟨(X0.off OE (fun hm => nbx_X0 (List.mem_singleton.1 hm))), (X1.off OE (fun hm => nbx_X1 (List.mem_singleton.1 hm))), (X2.off OE (fun hm => nbx_X2 (List.mem_singleton.1 hm)))⟩ (fun hS => ?_)
              clear hK K
              (try simp only [List.getElem_toArray]); (try simp only [List.getElem_cons_succ]); (try simp only [List.getElem_cons_zero]); (try simp only [Act.put]); (try simp only [List.setIfInBounds_toArray]); (try simp only [List.set_cons_succ]); (try simp only [List.set_cons_zero])
              refine wpAnyH_done (by kernel_rfl) ?_ _
              have FIN : ∃ nz cs_h0 bh0_0 bh0_1 bh0_2 bh0_3, (Value.pointer (some ⟨w48.heap.size, 0, none⟩)) = .pointer (some ⟨nz, 0, none⟩) ∧ Blk wE w.heap.size 31 cs0 ∧ Blk wE (w.heap.size + 1) 33 cs1 ∧ Blk wE (w.heap.size + 1 + 1) 33 cs2 ∧ Blk wE nbw0 43 cs_w0 ∧ Blk wE w25.heap.size 41 cs_xc0 ∧ Blk wE w27.heap.size 36 cs_xc1 ∧ Blk wE w29.heap.size 36 cs_xc2 ∧ Blk wE w31.heap.size 43 cs_g0 ∧ Below w.heap.size w wE ∧ OwMixResult wE (.agg cs_w0) r bw0_0 bw0_1 bw0_2 bw0_3 ∧ OwNet wE (.agg cs_xc0) (mkNet 1 x0) bxc0_0 bxc0_1 bxc0_2 ∧ OwMirror wE (.agg cs_xc1) (mkMirror (1 + (cntNet x0 : Nat)) x1) bxc1_0 ∧ OwMirror wE (.agg cs_xc2) (mkMirror (1 + (cntNet x0 : Nat) + (cntMirror x1 : Nat)) x2) bxc2_0 ∧ OwMixResult wE (.agg cs_g0) (mkMixResult 1 r) bg0_0 bg0_1 bg0_2 bg0_3 ∧ OwMixResult wE (.agg cs_h0) r bh0_0 bh0_1 bh0_2 bh0_3 ∧ Rw 19 cs_h0 ∧ Blk wE nz 43 cs_h0 ∧ Dj (bw0_0 ++ (bw0_1 ++ (bw0_2 ++ bw0_3))) (bh0_0 ++ (bh0_1 ++ (bh0_2 ++ bh0_3))) ∧ Dj (bxc0_0 ++ (bxc0_1 ++ bxc0_2)) (bh0_0 ++ (bh0_1 ++ (bh0_2 ++ bh0_3))) ∧ Dj bxc1_0 (bh0_0 ++ (bh0_1 ++ (bh0_2 ++ bh0_3))) ∧ Dj bxc2_0 (bh0_0 ++ (bh0_1 ++ (bh0_2 ++ bh0_3))) ∧ Dj (bg0_0 ++ (bg0_1 ++ (bg0_2 ++ bg0_3))) (bh0_0 ++ (bh0_1 ++ (bh0_2 ++ bh0_3))) ∧ w.heap.size ∉ (bh0_0 ++ (bh0_1 ++ (bh0_2 ++ bh0_3))) ∧ (w.heap.size + 1) ∉ (bh0_0 ++ (bh0_1 ++ (bh0_2 ++ bh0_3))) ∧ (w.heap.size + 1 + 1) ∉ (bh0_0 ++ (bh0_1 ++ (bh0_2 ++ bh0_3))) ∧ nbw0 ∉ (bh0_0 ++ (bh0_1 ++ (bh0_2 ++ bh0_3))) ∧ w25.heap.size ∉ (bh0_0 ++ (bh0_1 ++ (bh0_2 ++ bh0_3))) ∧ w27.heap.size ∉ (bh0_0 ++ (bh0_1 ++ (bh0_2 ++ bh0_3))) ∧ w29.heap.size ∉ (bh0_0 ++ (bh0_1 ++ (bh0_2 ++ bh0_3))) ∧ w31.heap.size ∉ (bh0_0 ++ (bh0_1 ++ (bh0_2 ++ bh0_3))) ∧ (∀ y ∈ (bh0_0 ++ (bh0_1 ++ (bh0_2 ++ bh0_3))), w.heap.size ≤ y) ∧ nz ∉ (bw0_0 ++ (bw0_1 ++ (bw0_2 ++ bw0_3))) ∧ nz ∉ (bxc0_0 ++ (bxc0_1 ++ bxc0_2)) ∧ nz ∉ bxc1_0 ∧ nz ∉ bxc2_0 ∧ nz ∉ (bg0_0 ++ (bg0_1 ++ (bg0_2 ++ bg0_3))) ∧ nz ∉ (bh0_0 ++ (bh0_1 ++ (bh0_2 ++ bh0_3))) := ⟨w48.heap.size, cs_h0, bh0_0, bh0_1, bh0_2, bh0_3, rfl, X0.off OE (fun hm => nbx_X0 (List.mem_singleton.1 hm)), X1.off OE (fun hm => nbx_X1 (List.mem_singleton.1 hm)), X2.off OE (fun hm => nbx_X2 (List.mem_singleton.1 hm)), Yw0.off OE (fun hm => nbx_Yw0 (List.mem_singleton.1 hm)), Z0.off OE (fun hm => nbx_Z0 (List.mem_singleton.1 hm)), Z1.off OE (fun hm => nbx_Z1 (List.mem_singleton.1 hm)), Z2.off OE (fun hm => nbx_Z2 (List.mem_singleton.1 hm)), Yg0.off OE (fun hm => nbx_Yg0 (List.mem_singleton.1 hm)), B.trans (OE.toBelow B.size (fun y hy => by rw [List.mem_singleton.1 hy]; exact gNB)), w0.off OE (fun y hy hm => nbk_w0 (by have e := List.mem_singleton.1 hm; subst e; exact hy)), xc0.off OE (fun y hy hm => nbk_xc0 (by have e := List.mem_singleton.1 hm; subst e; exact hy)), xc1.off OE (fun y hy hm => nbk_xc1 (by have e := List.mem_singleton.1 hm; subst e; exact hy)), xc2.off OE (fun y hy hm => nbk_xc2 (by have e := List.mem_singleton.1 hm; subst e; exact hy)), g0.off OE (fun y hy hm => nbk_g0 (by have e := List.mem_singleton.1 hm; subst e; exact hy)), h0.off OE (fun y hy hm => nbk_h0 (by have e := List.mem_singleton.1 hm; subst e; exact hy)), R_h0, YE, dj_w0_h0, dj_xc0_h0, dj_xc1_h0, dj_xc2_h0, dj_g0_h0, nb_X0_h0, nb_X1_h0, nb_X2_h0, nb_Yw0_h0, nb_Z0_h0, nb_Z1_h0, nb_Z2_h0, nb_Yg0_h0, G_h0, nbk_w0, nbk_xc0, nbk_xc1, nbk_xc2, nbk_g0, nbk_h0⟩
              go_wp2
              go_meet
              case rel => exact FIN
          · rw [if_pos (by rfl)]
            go_simp
            have nbx_X0 : w.heap.size ≠ w47.heap.size := Nat.ne_of_lt X0.lt
            have nbx_X1 : (w.heap.size + 1) ≠ w47.heap.size := Nat.ne_of_lt X1.lt
            have nbx_X2 : (w.heap.size + 1 + 1) ≠ w47.heap.size := Nat.ne_of_lt X2.lt
            have nbx_Yw0 : nbw0 ≠ w47.heap.size := Nat.ne_of_lt Yw0.lt
            have nbx_Z0 : w25.heap.size ≠ w47.heap.size := Nat.ne_of_lt Z0.lt
            have nbx_Z1 : w27.heap.size ≠ w47.heap.size := Nat.ne_of_lt Z1.lt
            have nbx_Z2 : w29.heap.size ≠ w47.heap.size := Nat.ne_of_lt Z2.lt
            have nbx_Yg0 : w31.heap.size ≠ w47.heap.size := Nat.ne_of_lt Yg0.lt
            have nbk_w0 : w47.heap.size ∉ (bw0_0 ++ (bw0_1 ++ (bw0_2 ++ bw0_3))) := fun hm => Nat.lt_irrefl _ (w0.lt _ hm)
            have nbk_xc0 : w47.heap.size ∉ (bxc0_0 ++ (bxc0_1 ++ bxc0_2)) := fun hm => Nat.lt_irrefl _ (xc0.lt _ hm)
            have nbk_xc1 : w47.heap.size ∉ bxc1_0 := fun hm => Nat.lt_irrefl _ (xc1.lt _ hm)
            have nbk_xc2 : w47.heap.size ∉ bxc2_0 := fun hm => Nat.lt_irrefl _ (xc2.lt _ hm)
            have nbk_g0 : w47.heap.size ∉ (bg0_0 ++ (bg0_1 ++ (bg0_2 ++ bg0_3))) := fun hm => Nat.lt_irrefl _ (g0.lt _ hm)
            have nbk_h0a0 : w47.heap.size ∉ (bh0a0_0 ++ (bh0a0_1 ++ bh0a0_2)) := fun hm => Nat.lt_irrefl _ (h0a0.lt _ hm)
            have nbk_h0a1 : w47.heap.size ∉ bh0a1_0 := fun hm => Nat.lt_irrefl _ (h0a1.lt _ hm)
            replace X0 := X0.alloc (.cells #[.int .i64 0, .int .i64 0, .slice none 0 0, .slice none 0 0, .slice none 0 0, .int .i64 0, .slice none 0 0, .int .i64 0, .int .i64 0, .int .i64 0, .bool false, .bool false, .int .i64 0, .int .i64 0, .int .i64 0, .int .i64 0, .int .i64 0, .int .i64 0, .int .i64 0] 43)
            replace X1 := X1.alloc (.cells #[.int .i64 0, .int .i64 0, .slice none 0 0, .slice none 0 0, .slice none 0 0, .int .i64 0, .slice none 0 0, .int .i64 0, .int .i64 0, .int .i64 0, .bool false, .bool false, .int .i64 0, .int .i64 0, .int .i64 0, .int .i64 0, .int .i64 0, .int .i64 0, .int .i64 0] 43)
            replace X2 := X2.alloc (.cells #[.int .i64 0, .int .i64 0, .slice none 0 0, .slice none 0 0, .slice none 0 0, .int .i64 0, .slice none 0 0, .int .i64 0, .int .i64 0, .int .i64 0, .bool false, .bool false, .int .i64 0, .int .i64 0, .int .i64 0, .int .i64 0, .int .i64 0, .int .i64 0, .int .i64 0] 43)
            replace Yw0 := Yw0.alloc (.cells #[.int .i64 0, .int .i64 0, .slice none 0 0, .slice none 0 0, .slice none 0 0, .int .i64 0, .slice none 0 0, .int .i64 0, .int .i64 0, .int .i64 0, .bool false, .bool false, .int .i64 0, .int .i64 0, .int .i64 0, .int .i64 0, .int .i64 0, .int .i64 0, .int .i64 0] 43)
            replace Z0 := Z0.alloc (.cells #[.int .i64 0, .int .i64 0, .slice none 0 0, .slice none 0 0, .slice none 0 0, .int .i64 0, .slice none 0 0, .int .i64 0, .int .i64 0, .int .i64 0, .bool false, .bool false, .int .i64 0, .int .i64 0, .int .i64 0, .int .i64 0, .int .i64 0, .int .i64 0, .int .i64 0] 43)
            replace Z1 := Z1.alloc (.cells #[.int .i64 0, .int .i64 0, .slice none 0 0, .slice none 0 0, .slice none 0 0, .int .i64 0, .slice none 0 0, .int .i64 0, .int .i64 0, .int .i64 0, .bool false, .bool false, .int .i64 0, .int .i64 0, .int .i64 0, .int .i64 0, .int .i64 0, .int .i64 0, .int .i64 0] 43)
            replace Z2 := Z2.alloc (.cells #[.int .i64 0, .int .i64 0, .slice none 0 0, .slice none 0 0, .slice none 0 0, .int .i64 0, .slice none 0 0, .int .i64 0, .int .i64 0, .int .i64 0, .bool false, .bool false, .int .i64 0, .int .i64 0, .int .i64 0, .int .i64 0, .int .i64 0, .int .i64 0, .int .i64 0] 43)
            replace Yg0 := Yg0.alloc (.cells #[.int .i64 0, .int .i64 0, .slice none 0 0, .slice none 0 0, .slice none 0 0, .int .i64 0, .slice none 0 0, .int .i64 0, .int .i64 0, .int .i64 0, .bool false, .bool false, .int .i64 0, .int .i64 0, .int .i64 0, .int .i64 0, .int .i64 0, .int .i64 0, .int .i64 0] 43)
            replace w0 := w0.alloc (.cells #[.int .i64 0, .int .i64 0, .slice none 0 0, .slice none 0 0, .slice none 0 0, .int .i64 0, .slice none 0 0, .int .i64 0, .int .i64 0, .int .i64 0, .bool false, .bool false, .int .i64 0, .int .i64 0, .int .i64 0, .int .i64 0, .int .i64 0, .int .i64 0, .int .i64 0] 43)
            replace xc0 := xc0.alloc (.cells #[.int .i64 0, .int .i64 0, .slice none 0 0, .slice none 0 0, .slice none 0 0, .int .i64 0, .slice none 0 0, .int .i64 0, .int .i64 0, .int .i64 0, .bool false, .bool false, .int .i64 0, .int .i64 0, .int .i64 0, .int .i64 0, .int .i64 0, .int .i64 0, .int .i64 0] 43)
            replace xc1 := xc1.alloc (.cells #[.int .i64 0, .int .i64 0, .slice none 0 0, .slice none 0 0, .slice none 0 0, .int .i64 0, .slice none 0 0, .int .i64 0, .int .i64 0, .int .i64 0, .bool false, .bool false, .int .i64 0, .int .i64 0, .int .i64 0, .int .i64 0, .int .i64 0, .int .i64 0, .int .i64 0] 43)
            replace xc2 := xc2.alloc (.cells #[.int .i64 0, .int .i64 0, .slice none 0 0, .slice none 0 0, .slice none 0 0, .int .i64 0, .slice none 0 0, .int .i64 0, .int .i64 0, .int .i64 0, .bool false, .bool false, .int .i64 0, .int .i64 0, .int .i64 0, .int .i64 0, .int .i64 0, .int .i64 0, .int .i64 0] 43)
            replace g0 := g0.alloc (.cells #[.int .i64 0, .int .i64 0, .slice none 0 0, .slice none 0 0, .slice none 0 0, .int .i64 0, .slice none 0 0, .int .i64 0, .int .i64 0, .int .i64 0, .bool false, .bool false, .int .i64 0, .int .i64 0, .int .i64 0, .int .i64 0, .int .i64 0, .int .i64 0, .int .i64 0] 43)
            replace h0a0 := h0a0.alloc (.cells #[.int .i64 0, .int .i64 0, .slice none 0 0, .slice none 0 0, .slice none 0 0, .int .i64 0, .slice none 0 0, .int .i64 0, .int .i64 0, .int .i64 0, .bool false, .bool false, .int .i64 0, .int .i64 0, .int .i64 0, .int .i64 0, .int .i64 0, .int .i64 0, .int .i64 0] 43)
            replace h0a1 := h0a1.alloc (.cells #[.int .i64 0, .int .i64 0, .slice none 0 0, .slice none 0 0, .slice none 0 0, .int .i64 0, .slice none 0 0, .int .i64 0, .int .i64 0, .int .i64 0, .bool false, .bool false, .int .i64 0, .int .i64 0, .int .i64 0, .int .i64 0, .int .i64 0, .int .i64 0, .int .i64 0] 43)
            have NB := Blk.new w47 43 #[.int .i64 0, .int .i64 0, .slice none 0 0, .slice none 0 0, .slice none 0 0, .int .i64 0, .slice none 0 0, .int .i64 0, .int .i64 0, .int .i64 0, .bool false, .bool false, .int .i64 0, .int .i64 0, .int .i64 0, .int .i64 0, .int .i64 0, .int .i64 0, .int .i64 0]
            have gNB : w.heap.size ≤ w47.heap.size := B.size
            replace B := B.alloc B.size (.cells #[.int .i64 0, .int .i64 0, .slice none 0 0, .slice none 0 0, .slice none 0 0, .int .i64 0, .slice none 0 0, .int .i64 0, .int .i64 0, .int .i64 0, .bool false, .bool false, .int .i64 0, .int .i64 0, .int .i64 0, .int .i64 0, .int .i64 0, .int .i64 0, .int .i64 0] 43)
            refine hK.out _ _ ⟨X0, X1, X2⟩ (fun hS => ?_)
            clear hK K
            (try simp only [List.getElem_toArray]); (try simp only [List.getElem_cons_succ]); (try simp only [List.getElem_cons_zero]); (try simp only [Act.put]); (try simp only [List.setIfInBounds_toArray]); (try simp only [List.set_cons_succ]); (try simp only [List.set_cons_zero])
            refine wpAnyH_ready (rs := [5]) (by kernel_rfl) (by simp) ?_
            refine AllReadyH.cons (o := _) rfl (fun K hK => ?_) AllReadyH.nil
            rw [if_pos (by rfl)]
            go_simp
            go_at_call 10
            refine (toMirror_ow _ x2 _ (by exact r2.below B) (by omega)).mono ?_
            rintro e w51 ⟨u, bh0a2_0, rfl, h0a2, fh0a2_0, hb51⟩
            obtain ⟨cs_h0a2, e_h0a2, R_h0a2⟩ := h0a2.row
            subst e_h0a2
            have F_h0a2 : ∀ y ∈ bh0a2_0, (w47.alloc (.cells #[.int .i64 0, .int .i64 0, .slice none 0 0, .slice none 0 0, .slice none 0 0, .int .i64 0, .slice none 0 0, .int .i64 0, .int .i64 0, .int .i64 0, .bool false, .bool false, .int .i64 0, .int .i64 0, .int .i64 0, .int .i64 0, .int .i64 0, .int .i64 0, .int .i64 0] 43)).heap.size ≤ y := fh0a2_0
            (try have nbk_h0a2 : _ ∉ bh0a2_0 := fun hm => Nat.not_lt.2 (F_h0a2 _ hm) NB.lt)
            have dj_w0_h0a2 : Dj (bw0_0 ++ (bw0_1 ++ (bw0_2 ++ bw0_3))) bh0a2_0 := fun y hy hm => Nat.not_lt.2 (F_h0a2 y hm) (w0.lt y hy)
            have dj_xc0_h0a2 : Dj (bxc0_0 ++ (bxc0_1 ++ bxc0_2)) bh0a2_0 := fun y hy hm => Nat.not_lt.2 (F_h0a2 y hm) (xc0.lt y hy)
            have dj_xc1_h0a2 : Dj bxc1_0 bh0a2_0 := fun y hy hm => Nat.not_lt.2 (F_h0a2 y hm) (xc1.lt y hy)
            have dj_xc2_h0a2 : Dj bxc2_0 bh0a2_0 := fun y hy hm => Nat.not_lt.2 (F_h0a2 y hm) (xc2.lt y hy)
            have dj_g0_h0a2 : Dj (bg0_0 ++ (bg0_1 ++ (bg0_2 ++ bg0_3))) bh0a2_0 := fun y hy hm => Nat.not_lt.2 (F_h0a2 y hm) (g0.lt y hy)
            have dj_h0a0_h0a2 : Dj (bh0a0_0 ++ (bh0a0_1 ++ bh0a0_2)) bh0a2_0 := fun y hy hm => Nat.not_lt.2 (F_h0a2 y hm) (h0a0.lt y hy)
            have dj_h0a1_h0a2 : Dj bh0a1_0 bh0a2_0 := fun y hy hm => Nat.not_lt.2 (F_h0a2 y hm) (h0a1.lt y hy)
            have nb_X0_h0a2 : w.heap.size ∉ bh0a2_0 := fun hm => Nat.not_lt.2 (F_h0a2 _ hm) X0.lt
            have nb_X1_h0a2 : (w.heap.size + 1) ∉ bh0a2_0 := fun hm => Nat.not_lt.2 (F_h0a2 _ hm) X1.lt
            have nb_X2_h0a2 : (w.heap.size + 1 + 1) ∉ bh0a2_0 := fun hm => Nat.not_lt.2 (F_h0a2 _ hm) X2.lt
            have nb_Yw0_h0a2 : nbw0 ∉ bh0a2_0 := fun hm => Nat.not_lt.2 (F_h0a2 _ hm) Yw0.lt
            have nb_Z0_h0a2 : w25.heap.size ∉ bh0a2_0 := fun hm => Nat.not_lt.2 (F_h0a2 _ hm) Z0.lt
            have nb_Z1_h0a2 : w27.heap.size ∉ bh0a2_0 := fun hm => Nat.not_lt.2 (F_h0a2 _ hm) Z1.lt
            have nb_Z2_h0a2 : w29.heap.size ∉ bh0a2_0 := fun hm => Nat.not_lt.2 (F_h0a2 _ hm) Z2.lt
            have nb_Yg0_h0a2 : w31.heap.size ∉ bh0a2_0 := fun hm => Nat.not_lt.2 (F_h0a2 _ hm) Yg0.lt
            have G_h0a2 : ∀ y ∈ bh0a2_0, w.heap.size ≤ y := fun y hy => Nat.le_trans B.size (F_h0a2 y hy)
            clear F_h0a2
            (try replace NB := NB.keep hb51)
            replace X0 := X0.keep hb51
            replace X1 := X1.keep hb51
            replace X2 := X2.keep hb51
            replace Yw0 := Yw0.keep hb51
            replace Z0 := Z0.keep hb51
            replace Z1 := Z1.keep hb51
            replace Z2 := Z2.keep hb51
            replace Yg0 := Yg0.keep hb51
            replace w0 := w0.keep hb51
            replace xc0 := xc0.keep hb51
            replace xc1 := xc1.keep hb51
            replace xc2 := xc2.keep hb51
            replace g0 := g0.keep hb51
            replace h0a0 := h0a0.keep hb51
            replace h0a1 := h0a1.keep hb51
            replace B := B.trans (hb51.mono B.size)
            clear hb51 fh0a2_0
            (try dsimp only)
            refine hK.out _ _ ⟨X0, X1, X2⟩ (fun hS => ?_)
            clear hK K
            (try simp only [List.getElem_toArray]); (try simp only [List.getElem_cons_succ]); (try simp only [List.getElem_cons_zero]); (try simp only [Act.put]); (try simp only [List.setIfInBounds_toArray]); (try simp only [List.set_cons_succ]); (try simp only [List.set_cons_zero])
            refine wpAnyH_ready (rs := [6]) (by kernel_rfl) (by simp) ?_
            refine AllReadyH.cons (o := _) rfl (fun K hK => ?_) AllReadyH.nil
            rw [if_pos (by rfl)]
            go_simp
            go_at_call 20
            refine (HI.out _ _ _ _ (by exact h0a0.rd) (by exact h0a1.rd) (by exact h0a2.rd)).mono ?_
            rintro e w52 ⟨u, bh0_0, bh0_1, bh0_2, bh0_3, rfl, h0, fh0_0, fh0_1, fh0_2, fh0_3, hb52⟩
            obtain ⟨cs_h0, e_h0, R_h0⟩ := h0.row
            subst e_h0
            have F_h0 : ∀ y ∈ (bh0_0 ++ (bh0_1 ++ (bh0_2 ++ bh0_3))), w51.heap.size ≤ y := all_app fh0_0 (all_app fh0_1 (all_app fh0_2 fh0_3))
            (try have nbk_h0 : _ ∉ (bh0_0 ++ (bh0_1 ++ (bh0_2 ++ bh0_3))) := fun hm => Nat.not_lt.2 (F_h0 _ hm) NB.lt)
            have dj_w0_h0 : Dj (bw0_0 ++ (bw0_1 ++ (bw0_2 ++ bw0_3))) (bh0_0 ++ (bh0_1 ++ (bh0_2 ++ bh0_3))) := fun y hy hm => Nat.not_lt.2 (F_h0 y hm) (w0.lt y hy)
            have dj_xc0_h0 : Dj (bxc0_0 ++ (bxc0_1 ++ bxc0_2)) (bh0_0 ++ (bh0_1 ++ (bh0_2 ++ bh0_3))) := fun y hy hm => Nat.not_lt.2 (F_h0 y hm) (xc0.lt y hy)
            have dj_xc1_h0 : Dj bxc1_0 (bh0_0 ++ (bh0_1 ++ (bh0_2 ++ bh0_3))) := fun y hy hm => Nat.not_lt.2 (F_h0 y hm) (xc1.lt y hy)
            have dj_xc2_h0 : Dj bxc2_0 (bh0_0 ++ (bh0_1 ++ (bh0_2 ++ bh0_3))) := fun y hy hm => Nat.not_lt.2 (F_h0 y hm) (xc2.lt y hy)
            have dj_g0_h0 : Dj (bg0_0 ++ (bg0_1 ++ (bg0_2 ++ bg0_3))) (bh0_0 ++ (bh0_1 ++ (bh0_2 ++ bh0_3))) := fun y hy hm => Nat.not_lt.2 (F_h0 y hm) (g0.lt y hy)
            have dj_h0a0_h0 : Dj (bh0a0_0 ++ (bh0a0_1 ++ bh0a0_2)) (bh0_0 ++ (bh0_1 ++ (bh0_2 ++ bh0_3))) := fun y hy hm => Nat.not_lt.2 (F_h0 y hm) (h0a0.lt y hy)
            have dj_h0a1_h0 : Dj bh0a1_0 (bh0_0 ++ (bh0_1 ++ (bh0_2 ++ bh0_3))) := fun y hy hm => Nat.not_lt.2 (F_h0 y hm) (h0a1.lt y hy)
            have dj_h0a2_h0 : Dj bh0a2_0 (bh0_0 ++ (bh0_1 ++ (bh0_2 ++ bh0_3))) := fun y hy hm => Nat.not_lt.2 (F_h0 y hm) (h0a2.lt y hy)
            have nb_X0_h0 : w.heap.size ∉ (bh0_0 ++ (bh0_1 ++ (bh0_2 ++ bh0_3))) := fun hm => Nat.not_lt.2 (F_h0 _ hm) X0.lt
            have nb_X1_h0 : (w.heap.size + 1) ∉ (bh0_0 ++ (bh0_1 ++ (bh0_2 ++ bh0_3))) := fun hm => Nat.not_lt.2 (F_h0 _ hm) X1.lt
            have nb_X2_h0 : (w.heap.size + 1 + 1) ∉ (bh0_0 ++ (bh0_1 ++ (bh0_2 ++ bh0_3))) := fun hm => Nat.not_lt.2 (F_h0 _ hm) X2.lt
            have nb_Yw0_h0 : nbw0 ∉ (bh0_0 ++ (bh0_1 ++ (bh0_2 ++ bh0_3))) := fun hm => Nat.not_lt.2 (F_h0 _ hm) Yw0.lt
            have nb_Z0_h0 : w25.heap.size ∉ (bh0_0 ++ (bh0_1 ++ (bh0_2 ++ bh0_3))) := fun hm => Nat.not_lt.2 (F_h0 _ hm) Z0.lt
            have nb_Z1_h0 : w27.heap.size ∉ (bh0_0 ++ (bh0_1 ++ (bh0_2 ++ bh0_3))) := fun hm => Nat.not_lt.2 (F_h0 _ hm) Z1.lt
            have nb_Z2_h0 : w29.heap.size ∉ (bh0_0 ++ (bh0_1 ++ (bh0_2 ++ bh0_3))) := fun hm => Nat.not_lt.2 (F_h0 _ hm) Z2.lt
            have nb_Yg0_h0 : w31.heap.size ∉ (bh0_0 ++ (bh0_1 ++ (bh0_2 ++ bh0_3))) := fun hm => Nat.not_lt.2 (F_h0 _ hm) Yg0.lt
            have G_h0 : ∀ y ∈ (bh0_0 ++ (bh0_1 ++ (bh0_2 ++ bh0_3))), w.heap.size ≤ y := fun y hy => Nat.le_trans B.size (F_h0 y hy)
            clear F_h0
            (try replace NB := NB.keep hb52)
            replace X0 := X0.keep hb52
            replace X1 := X1.keep hb52
            replace X2 := X2.keep hb52
            replace Yw0 := Yw0.keep hb52
            replace Z0 := Z0.keep hb52
            replace Z1 := Z1.keep hb52
            replace Z2 := Z2.keep hb52
            replace Yg0 := Yg0.keep hb52
            replace w0 := w0.keep hb52
            replace xc0 := xc0.keep hb52
            replace xc1 := xc1.keep hb52
            replace xc2 := xc2.keep hb52
            replace g0 := g0.keep hb52
            replace h0a0 := h0a0.keep hb52
            replace h0a1 := h0a1.keep hb52
            replace h0a2 := h0a2.keep hb52
            replace B := B.trans (hb52.mono B.size)
            clear hb52 fh0_0 fh0_1 fh0_2 fh0_3
            (try dsimp only)
            refine hK.out _ _ ⟨X0, X1, X2⟩ (fun hS => ?_)
            clear hK K
            (try simp only [List.getElem_toArray]); (try simp only [List.getElem_cons_succ]); (try simp only [List.getElem_cons_zero]); (try simp only [Act.put]); (try simp only [List.setIfInBounds_toArray]); (try simp only [List.set_cons_succ]); (try simp only [List.set_cons_zero])
            refine wpAnyH_ready (rs := [8]) (by kernel_rfl) (by simp) ?_
            refine AllReadyH.cons (o := _) rfl (fun K hK => ?_) AllReadyH.nil
            refine step_store_blk rfl 43 _ _ rfl w47.heap.size cs_h0 rfl rfl NB (by rw [R_h0.1]; rfl) (R_h0.hi (by kernel_rfl)) R_h0.2 ?_
            intro wE YE OE
            refine hK.out _ _ ⟨(X0.off OE (fun hm => nbx_X0 (List.mem_singleton.1 hm))), (X1.off OE (fun hm => nbx_X1 (List.mem_singleton.1 hm))), (X2.off OE (fun hm => nbx_X2 (List.mem_singleton.1 hm)))⟩ (fun hS => ?_)
            clear hK K
            (try simp only [List.getElem_toArray]); (try simp only [List.getElem_cons_succ]); (try simp only [List.getElem_cons_zero]); (try simp only [Act.put]); (try simp only [List.setIfInBounds_toArray]); (try simp only [List.set_cons_succ]); (try simp only [List.set_cons_zero])
            refine wpAnyH_done (by kernel_rfl) ?_ _
            have FIN : ∃ nz cs_h0 bh0_0 bh0_1 bh0_2 bh0_3, (Value.pointer (some ⟨w47.heap.size, 0, none⟩)) = .pointer (some ⟨nz, 0, none⟩) ∧ Blk wE w.heap.size 31 cs0 ∧ Blk wE (w.heap.size + 1) 33 cs1 ∧ Blk wE (w.heap.size + 1 + 1) 33 cs2 ∧ Blk wE nbw0 43 cs_w0 ∧ Blk wE w25.heap.size 41 cs_xc0 ∧ Blk wE w27.heap.size 36 cs_xc1 ∧ Blk wE w29.heap.size 36 cs_xc2 ∧ Blk wE w31.heap.size 43 cs_g0 ∧ Below w.heap.size w wE ∧ OwMixResult wE (.agg cs_w0) r bw0_0 bw0_1 bw0_2 bw0_3 ∧ OwNet wE (.agg cs_xc0) (mkNet 1 x0) bxc0_0 bxc0_1 bxc0_2 ∧ OwMirror wE (.agg cs_xc1) (mkMirror (1 + (cntNet x0 : Nat)) x1) bxc1_0 ∧ OwMirror wE (.agg cs_xc2) (mkMirror (1 + (cntNet x0 : Nat) + (cntMirror x1 : Nat)) x2) bxc2_0 ∧ OwMixResult wE (.agg cs_g0) (mkMixResult 1 r) bg0_0 bg0_1 bg0_2 bg0_3 ∧ OwMixResult wE (.agg cs_h0) r bh0_0 bh0_1 bh0_2 bh0_3 ∧ Rw 19 cs_h0 ∧ Blk wE nz 43 cs_h0 ∧ Dj (bw0_0 ++ (bw0_1 ++ (bw0_2 ++ bw0_3))) (bh0_0 ++ (bh0_1 ++ (bh0_2 ++ bh0_3))) ∧ Dj (bxc0_0 ++ (bxc0_1 ++ bxc0_2)) (bh0_0 ++ (bh0_1 ++ (bh0_2 ++ bh0_3))) ∧ Dj bxc1_0 (bh0_0 ++ (bh0_1 ++ (bh0_2 ++ bh0_3))) ∧ Dj bxc2_0 (bh0_0 ++ (bh0_1 ++ (bh0_2 ++ bh0_3))) ∧ Dj (bg0_0 ++ (bg0_1 ++ (bg0_2 ++ bg0_3))) (bh0_0 ++ (bh0_1 ++ (bh0_2 ++ bh0_3))) ∧ w.heap.size ∉ (bh0_0 ++ (bh0_1 ++ (bh0_2 ++ bh0_3))) ∧ (w.heap.size + 1) ∉ (bh0_0 ++ (bh0_1 ++ (bh0_2 ++ bh0_3))) ∧ (w.heap.size + 1 + 1) ∉ (bh0_0 ++ (bh0_1 ++ (bh0_2 ++ bh0_3))) ∧ nbw0 ∉ (bh0_0 ++ (bh0_1 ++ (bh0_2 ++ bh0_3))) ∧ w25.heap.size ∉ (bh0_0 ++ (bh0_1 ++ (bh0_2 ++ bh0_3))) ∧ w27.heap.size ∉ (bh0_0 ++ (bh0_1 ++ (bh0_2 ++ bh0_3))) ∧ w29.heap.size ∉ (bh0_0 ++ (bh0_1 ++ (bh0_2 ++ bh0_3))) ∧ w31.heap.size ∉ (bh0_0 ++ (bh0_1 ++ (bh0_2 ++ bh0_3))) ∧ (∀ y ∈ (bh0_0 ++ (bh0_1 ++ (bh0_2 ++ bh0_3))), w.heap.size ≤ y) ∧ nz ∉ (bw0_0 ++ (bw0_1 ++ (bw0_2 ++ bw0_3))) ∧ nz ∉ (bxc0_0 ++ (bxc0_1 ++ bxc0_2)) ∧ nz ∉ bxc1_0 ∧ nz ∉ bxc2_0 ∧ nz ∉ (bg0_0 ++ (bg0_1 ++ (bg0_2 ++ bg0_3))) ∧ nz ∉ (bh0_0 ++ (bh0_1 ++ (bh0_2 ++ bh0_3))) := ⟨w47.heap.size, cs_h0, bh0_0, bh0_1, bh0_2, bh0_3, rfl, X0.off OE (fun hm => nbx_X0 (List.mem_singleton.1 hm)), X1.off OE (fun hm => nbx_X1 (List.mem_singleton.1 hm)), X2.off OE (fun hm => nbx_X2 (List.mem_singleton.1 hm)), Yw0.off OE (fun hm => nbx_Yw0 (List.mem_singleton.1 hm)), Z0.off OE (fun hm => nbx_Z0 (List.mem_singleton.1 hm)), Z1.off OE (fun hm => nbx_Z1 (List.mem_singleton.1 hm)), Z2.off OE (fun hm => nbx_Z2 (List.mem_singleton.1 hm)), Yg0.off OE (fun hm => nbx_Yg0 (List.mem_singleton.1 hm)), B.trans (OE.toBelow B.size (fun y hy => by rw [List.mem_singleton.1 hy]; exact gNB)), w0.off OE (fun y hy hm => nbk_w0 (by have e := List.mem_singleton.1 hm; subst e; exact hy)), xc0.off OE (fun y hy hm => nbk_xc0 (by have e := List.mem_singleton.1 hm; subst e; exact hy)), xc1.off OE (fun y hy hm => nbk_xc1 (by have e := List.mem_singleton.1 hm; subst e; exact hy)), xc2.off OE (fun y hy hm => nbk_xc2 (by have e := List.mem_singleton.1 hm; subst e; exact hy)), g0.off OE (fun y hy hm => nbk_g0 (by have e := List.mem_singleton.1 hm; subst e; exact hy)), h0.off OE (fun y hy hm => nbk_h0 (by have e := List.mem_singleton.1 hm; subst e; exact hy)), R_h0, YE, dj_w0_h0, dj_xc0_h0, dj_xc1_h0, dj_xc2_h0, dj_g0_h0, nb_X0_h0, nb_X1_h0, nb_X2_h0, nb_Yw0_h0, nb_Z0_h0, nb_Z1_h0, nb_Z2_h0, nb_Yg0_h0, G_h0, nbk_w0, nbk_xc0, nbk_xc1, nbk_xc2, nbk_g0, nbk_h0⟩
            go_wp2
            go_meet
            case rel => exact FIN
        · rw [if_pos (by rfl)]
          go_simp
          have nbx_X0 : w.heap.size ≠ w46.heap.size := Nat.ne_of_lt X0.lt
          have nbx_X1 : (w.heap.size + 1) ≠ w46.heap.size := Nat.ne_of_lt X1.lt
          have nbx_X2 : (w.heap.size + 1 + 1) ≠ w46.heap.size := Nat.ne_of_lt X2.lt
          have nbx_Yw0 : nbw0 ≠ w46.heap.size := Nat.ne_of_lt Yw0.lt
          have nbx_Z0 : w25.heap.size ≠ w46.heap.size := Nat.ne_of_lt Z0.lt
          have nbx_Z1 : w27.heap.size ≠ w46.heap.size := Nat.ne_of_lt Z1.lt
          have nbx_Z2 : w29.heap.size ≠ w46.heap.size := Nat.ne_of_lt Z2.lt
          have nbx_Yg0 : w31.heap.size ≠ w46.heap.size := Nat.ne_of_lt Yg0.lt
          have nbk_w0 : w46.heap.size ∉ (bw0_0 ++ (bw0_1 ++ (bw0_2 ++ bw0_3))) := fun hm => Nat.lt_irrefl _ (w0.lt _ hm)
          have nbk_xc0 : w46.heap.size ∉ (bxc0_0 ++ (bxc0_1 ++ bxc0_2)) := fun hm => Nat.lt_irrefl _ (xc0.lt _ hm)
          have nbk_xc1 : w46.heap.size ∉ bxc1_0 := fun hm => Nat.lt_irrefl _ (xc1.lt _ hm)
          have nbk_xc2 : w46.heap.size ∉ bxc2_0 := fun hm => Nat.lt_irrefl _ (xc2.lt _ hm)
          have nbk_g0 : w46.heap.size ∉ (bg0_0 ++ (bg0_1 ++ (bg0_2 ++ bg0_3))) := fun hm => Nat.lt_irrefl _ (g0.lt _ hm)
          have nbk_h0a0 : w46.heap.size ∉ (bh0a0_0 ++ (bh0a0_1 ++ bh0a0_2)) := fun hm => Nat.lt_irrefl _ (h0a0.lt _ hm)
          replace X0 := X0.alloc (.cells #[.int .i64 0, .int .i64 0, .slice none 0 0, .slice none 0 0, .slice none 0 0, .int .i64 0, .slice none 0 0, .int .i64 0, .int .i64 0, .int .i64 0, .bool false, .bool false, .int .i64 0, .int .i64 0, .int .i64 0, .int .i64 0, .int .i64 0, .int .i64 0, .int .i64 0] 43)
          replace X1 := X1.alloc (.cells #[.int .i64 0, .int .i64 0, .slice none 0 0, .slice none 0 0, .slice none 0 0, .int .i64 0, .slice none 0 0, .int .i64 0, .int .i64 0, .int .i64 0, .bool false, .bool false, .int .i64 0, .int .i64 0, .int .i64 0, .int .i64 0, .int .i64 0, .int .i64 0, .int .i64 0] 43)
          replace X2 := X2.alloc (.cells #[.int .i64 0, .int .i64 0, .slice none 0 0, .slice none 0 0, .slice none 0 0, .int .i64 0, .slice none 0 0, .int .i64 0, .int .i64 0, .int .i64 0, .bool false, .bool false, .int .i64 0, .int .i64 0, .int .i64 0, .int .i64 0, .int .i64 0, .int .i64 0, .int .i64 0] 43)
          replace Yw0 := Yw0.alloc (.cells #[.int .i64 0, .int .i64 0, .slice none 0 0, .slice none 0 0, .slice none 0 0, .int .i64 0, .slice none 0 0, .int .i64 0, .int .i64 0, .int .i64 0, .bool false, .bool false, .int .i64 0, .int .i64 0, .int .i64 0, .int .i64 0, .int .i64 0, .int .i64 0, .int .i64 0] 43)
          replace Z0 := Z0.alloc (.cells #[.int .i64 0, .int .i64 0, .slice none 0 0, .slice none 0 0, .slice none 0 0, .int .i64 0, .slice none 0 0, .int .i64 0, .int .i64 0, .int .i64 0, .bool false, .bool false, .int .i64 0, .int .i64 0, .int .i64 0, .int .i64 0, .int .i64 0, .int .i64 0, .int .i64 0] 43)
          replace Z1 := Z1.alloc (.cells #[.int .i64 0, .int .i64 0, .slice none 0 0, .slice none 0 0, .slice none 0 0, .int .i64 0, .slice none 0 0, .int .i64 0, .int .i64 0, .int .i64 0, .bool false, .bool false, .int .i64 0, .int .i64 0, .int .i64 0, .int .i64 0, .int .i64 0, .int .i64 0, .int .i64 0] 43)
          replace Z2 := Z2.alloc (.cells #[.int .i64 0, .int .i64 0, .slice none 0 0, .slice none 0 0, .slice none 0 0, .int .i64 0, .slice none 0 0, .int .i64 0, .int .i64 0, .int .i64 0, .bool false, .bool false, .int .i64 0, .int .i64 0, .int .i64 0, .int .i64 0, .int .i64 0, .int .i64 0, .int .i64 0] 43)
          replace Yg0 := Yg0.alloc (.cells #[.int .i64 0, .int .i64 0, .slice none 0 0, .slice none 0 0, .slice none 0 0, .int .i64 0, .slice none 0 0, .int .i64 0, .int .i64 0, .int .i64 0, .bool false, .bool false, .int .i64 0, .int .i64 0, .int .i64 0, .int .i64 0, .int .i64 0, .int .i64 0, .int .i64 0] 43)
          replace w0 := w0.alloc (.cells #[.int .i64 0, .int .i64 0, .slice none 0 0, .slice none 0 0, .slice none 0 0, .int .i64 0, .slice none 0 0, .int .i64 0, .int .i64 0, .int .i64 0, .bool false, .bool false, .int .i64 0, .int .i64 0, .int .i64 0, .int .i64 0, .int .i64 0, .int .i64 0, .int .i64 0] 43)
          replace xc0 := xc0.alloc (.cells #[.int .i64 0, .int .i64 0, .slice none 0 0, .slice none 0 0, .slice none 0 0, .int .i64 0, .slice none 0 0, .int .i64 0, .int .i64 0, .int .i64 0, .bool false, .bool false, .int .i64 0, .int .i64 0, .int .i64 0, .int .i64 0, .int .i64 0, .int .i64 0, .int .i64 0] 43)
          replace xc1 := xc1.alloc (.cells #[.int .i64 0, .int .i64 0, .slice none 0 0, .slice none 0 0, .slice none 0 0, .int .i64 0, .slice none 0 0, .int .i64 0, .int .i64 0, .int .i64 0, .bool false, .bool false, .int .i64 0, .int .i64 0, .int .i64 0, .int .i64 0, .int .i64 0, .int .i64 0, .int .i64 0] 43)
          replace xc2 := xc2.alloc (.cells #[.int .i64 0, .int .i64 0, .slice none 0 0, .slice none 0 0, .slice none 0 0, .int .i64 0, .slice none 0 0, .int .i64 0, .int .i64 0, .int .i64 0, .bool false, .bool false, .int .i64 0, .int .i64 0, .int .i64 0, .int .i64 0, .int .i64 0, .int .i64 0, .int .i64 0] 43)
          replace g0 := g0.alloc (.cells #[.int .i64 0, .int .i64 0, .slice none 0 0, .slice none 0 0, .slice none 0 0, .int .i64 0, .slice none 0 0, .int .i64 0, .int .i64 0, .int .i64 0, .bool false, .bool false, .int .i64 0, .int .i64 0, .int .i64 0, .int .i64 0, .int .i64 0, .int .i64 0, .int .i64 0] 43)
          replace h0a0 := h0a0.alloc (.cells #[.int .i64 0, .int .i64 0, .slice none 0 0, .slice none 0 0, .slice none 0 0, .int .i64 0, .slice none 0 0, .int .i64 0, .int .i64 0, .int .i64 0, .bool false, .bool false, .int .i64 0, .int .i64 0, .int .i64 0, .int .i64 0, .int .i64 0, .int .i64 0, .int .i64 0] 43)
          have NB := Blk.new w46 43 #[.int .i64 0, .int .i64 0, .slice none 0 0, .slice none 0 0, .slice none 0 0, .int .i64 0, .slice none 0 0, .int .i64 0, .int .i64 0, .int .i64 0, .bool false, .bool false, .int .i64 0, .int .i64 0, .int .i64 0, .int .i64 0, .int .i64 0, .int .i64 0, .int .i64 0]
          have gNB : w.heap.size ≤ w46.heap.size := B.size
          replace B := B.alloc B.size (.cells #[.int .i64 0, .int .i64 0, .slice none 0 0, .slice none 0 0, .slice none 0 0, .int .i64 0, .slice none 0 0, .int .i64 0, .int .i64 0, .int .i64 0, .bool false, .bool false, .int .i64 0, .int .i64 0, .int .i64 0, .int .i64 0, .int .i64 0, .int .i64 0, .int .i64 0] 43)
          refine hK.out _ _ ⟨X0, X1, X2⟩ (fun hS => ?_)
          clear hK K
          (try simp only [List.getElem_toArray]); (try simp only [List.getElem_cons_succ]); (try simp only [List.getElem_cons_zero]); (try simp only [Act.put]); (try simp only [List.setIfInBounds_toArray]); (try simp only [List.set_cons_succ]); (try simp only [List.set_cons_zero])
          refine wpAnyH_ready (rs := [3]) (by kernel_rfl) (by simp) ?_
          refine AllReadyH.cons (o := _) rfl (fun K hK => ?_) AllReadyH.nil
          rw [if_pos (by rfl)]
          go_simp
          go_at_call 10
          refine (toMirror_ow _ x1 _ (by exact r1.below B) (by omega)).mono ?_
          rintro e w53 ⟨u, bh0a1_0, rfl, h0a1, fh0a1_0, hb53⟩
          obtain ⟨cs_h0a1, e_h0a1, R_h0a1⟩ := h0a1.row
          subst e_h0a1
          have F_h0a1 : ∀ y ∈ bh0a1_0, (w46.alloc (.cells #[.int .i64 0, .int .i64 0, .slice none 0 0, .slice none 0 0, .slice none 0 0, .int .i64 0, .slice none 0 0, .int .i64 0, .int .i64 0, .int .i64 0, .bool false, .bool false, .int .i64 0, .int .i64 0, .int .i64 0, .int .i64 0, .int .i64 0, .int .i64 0, .int .i64 0] 43)).heap.size ≤ y := fh0a1_0
          (try have nbk_h0a1 : _ ∉ bh0a1_0 := fun hm => Nat.not_lt.2 (F_h0a1 _ hm) NB.lt)
          have dj_w0_h0a1 : Dj (bw0_0 ++ (bw0_1 ++ (bw0_2 ++ bw0_3))) bh0a1_0 := fun y hy hm => Nat.not_lt.2 (F_h0a1 y hm) (w0.lt y hy)
          have dj_xc0_h0a1 : Dj (bxc0_0 ++ (bxc0_1 ++ bxc0_2)) bh0a1_0 := fun y hy hm => Nat.not_lt.2 (F_h0a1 y hm) (xc0.lt y hy)
          have dj_xc1_h0a1 : Dj bxc1_0 bh0a1_0 := fun y hy hm => Nat.not_lt.2 (F_h0a1 y hm) (xc1.lt y hy)
          have dj_xc2_h0a1 : Dj bxc2_0 bh0a1_0 := fun y hy hm => Nat.not_lt.2 (F_h0a1 y hm) (xc2.lt y hy)
          have dj_g0_h0a1 : Dj (bg0_0 ++ (bg0_1 ++ (bg0_2 ++ bg0_3))) bh0a1_0 := fun y hy hm => Nat.not_lt.2 (F_h0a1 y hm) (g0.lt y hy)
          have dj_h0a0_h0a1 : Dj (bh0a0_0 ++ (bh0a0_1 ++ bh0a0_2)) bh0a1_0 := fun y hy hm => Nat.not_lt.2 (F_h0a1 y hm) (h0a0.lt y hy)
          have nb_X0_h0a1 : w.heap.size ∉ bh0a1_0 := fun hm => Nat.not_lt.2 (F_h0a1 _ hm) X0.lt
          have nb_X1_h0a1 : (w.heap.size + 1) ∉ bh0a1_0 := fun hm => Nat.not_lt.2 (F_h0a1 _ hm) X1.lt
          have nb_X2_h0a1 : (w.heap.size + 1 + 1) ∉ bh0a1_0 := fun hm => Nat.not_lt.2 (F_h0a1 _ hm) X2.lt
          have nb_Yw0_h0a1 : nbw0 ∉ bh0a1_0 := fun hm => Nat.not_lt.2 (F_h0a1 _ hm) Yw0.lt
          have nb_Z0_h0a1 : w25.heap.size ∉ bh0a1_0 := fun hm => Nat.not_lt.2 (F_h0a1 _ hm) Z0.lt
          have nb_Z1_h0a1 : w27.heap.size ∉ bh0a1_0 := fun hm => Nat.not_lt.2 (F_h0a1 _ hm) Z1.lt
          have nb_Z2_h0a1 : w29.heap.size ∉ bh0a1_0 := fun hm => Nat.not_lt.2 (F_h0a1 _ hm) Z2.lt
          have nb_Yg0_h0a1 : w31.heap.size ∉ bh0a1_0 := fun hm => Nat.not_lt.2 (F_h0a1 _ hm) Yg0.lt
          have G_h0a1 : ∀ y ∈ bh0a1_0, w.heap.size ≤ y := fun y hy => Nat.le_trans B.size (F_h0a1 y hy)
          clear F_h0a1
          (try replace NB := NB.keep hb53)
          replace X0 := X0.keep hb53
          replace X1 := X1.keep hb53
          replace X2 := X2.keep hb53
          replace Yw0 := Yw0.keep hb53
          replace Z0 := Z0.keep hb53
          replace Z1 := Z1.keep hb53
          replace Z2 := Z2.keep hb53
          replace Yg0 := Yg0.keep hb53
          replace w0 := w0.keep hb53
          replace xc0 := xc0.keep hb53
          replace xc1 := xc1.keep hb53
          replace xc2 := xc2.keep hb53
          replace g0 := g0.keep hb53
          replace h0a0 := h0a0.keep hb53
          replace B := B.trans (hb53.mono B.size)
          clear hb53 fh0a1_0
          (try dsimp only)
          refine hK.out _ _ ⟨X0, X1, X2⟩ (fun hS => ?_)
          clear hK K
          (try simp only [List.getElem_toArray]); (try simp only [List.getElem_cons_succ]); (try simp only [List.getElem_cons_zero]); (try simp only [Act.put]); (try simp only [List.setIfInBounds_toArray]); (try simp only [List.set_cons_succ]); (try simp only [List.set_cons_zero])
          refine wpAnyH_ready (rs := [5]) (by kernel_rfl) (by simp) ?_
          refine AllReadyH.cons (o := _) rfl (fun K hK => ?_) AllReadyH.nil
          rw [if_pos (by rfl)]
          go_simp
          go_at_call 10
          refine (toMirror_ow _ x2 _ (by exact r2.below B) (by omega)).mono ?_
          rintro e w54 ⟨u, bh0a2_0, rfl, h0a2, fh0a2_0, hb54⟩
          obtain ⟨cs_h0a2, e_h0a2, R_h0a2⟩ := h0a2.row
          subst e_h0a2
          have F_h0a2 : ∀ y ∈ bh0a2_0, w53.heap.size ≤ y := fh0a2_0
          (try have nbk_h0a2 : _ ∉ bh0a2_0 := fun hm => Nat.not_lt.2 (F_h0a2 _ hm) NB.lt)
          have dj_w0_h0a2 : Dj (bw0_0 ++ (bw0_1 ++ (bw0_2 ++ bw0_3))) bh0a2_0 := fun y hy hm => Nat.not_lt.2 (F_h0a2 y hm) (w0.lt y hy)
          have dj_xc0_h0a2 : Dj (bxc0_0 ++ (bxc0_1 ++ bxc0_2)) bh0a2_0 := fun y hy hm => Nat.not_lt.2 (F_h0a2 y hm) (xc0.lt y hy)
          have dj_xc1_h0a2 : Dj bxc1_0 bh0a2_0 := fun y hy hm => Nat.not_lt.2 (F_h0a2 y hm) (xc1.lt y hy)
          have dj_xc2_h0a2 : Dj bxc2_0 bh0a2_0 := fun y hy hm => Nat.not_lt.2 (F_h0a2 y hm) (xc2.lt y hy)
          have dj_g0_h0a2 : Dj (bg0_0 ++ (bg0_1 ++ (bg0_2 ++ bg0_3))) bh0a2_0 := fun y hy hm => Nat.not_lt.2 (F_h0a2 y hm) (g0.lt y hy)
          have dj_h0a0_h0a2 : Dj (bh0a0_0 ++ (bh0a0_1 ++ bh0a0_2)) bh0a2_0 := fun y hy hm => Nat.not_lt.2 (F_h0a2 y hm) (h0a0.lt y hy)
          have dj_h0a1_h0a2 : Dj bh0a1_0 bh0a2_0 := fun y hy hm => Nat.not_lt.2 (F_h0a2 y hm) (h0a1.lt y hy)
          have nb_X0_h0a2 : w.heap.size ∉ bh0a2_0 := fun hm => Nat.not_lt.2 (F_h0a2 _ hm) X0.lt
          have nb_X1_h0a2 : (w.heap.size + 1) ∉ bh0a2_0 := fun hm => Nat.not_lt.2 (F_h0a2 _ hm) X1.lt
          have nb_X2_h0a2 : (w.heap.size + 1 + 1) ∉ bh0a2_0 := fun hm => Nat.not_lt.2 (F_h0a2 _ hm) X2.lt
          have nb_Yw0_h0a2 : nbw0 ∉ bh0a2_0 := fun hm => Nat.not_lt.2 (F_h0a2 _ hm) Yw0.lt
          have nb_Z0_h0a2 : w25.heap.size ∉ bh0a2_0 := fun hm => Nat.not_lt.2 (F_h0a2 _ hm) Z0.lt
          have nb_Z1_h0a2 : w27.heap.size ∉ bh0a2_0 := fun hm => Nat.not_lt.2 (F_h0a2 _ hm) Z1.lt
          have nb_Z2_h0a2 : w29.heap.size ∉ bh0a2_0 := fun hm => Nat.not_lt.2 (F_h0a2 _ hm) Z2.lt
          have nb_Yg0_h0a2 : w31.heap.size ∉ bh0a2_0 := fun hm => Nat.not_lt.2 (F_h0a2 _ hm) Yg0.lt
          have G_h0a2 : ∀ y ∈ bh0a2_0, w.heap.size ≤ y := fun y hy => Nat.le_trans B.size (F_h0a2 y hy)
          clear F_h0a2
          (try replace NB := NB.keep hb54)
          replace X0 := X0.keep hb54
          replace X1 := X1.keep hb54
          replace X2 := X2.keep hb54
          replace Yw0 := Yw0.keep hb54
          replace Z0 := Z0.keep hb54
          replace Z1 := Z1.keep hb54
          replace Z2 := Z2.keep hb54
          replace Yg0 := Yg0.keep hb54
          replace w0 := w0.keep hb54
          replace xc0 := xc0.keep hb54
          replace xc1 := xc1.keep hb54
          replace xc2 := xc2.keep hb54
          replace g0 := g0.keep hb54
          replace h0a0 := h0a0.keep hb54
          replace h0a1 := h0a1.keep hb54
          replace B := B.trans (hb54.mono B.size)
          clear hb54 fh0a2_0
          (try dsimp only)
          refine hK.out _ _ ⟨X0, X1, X2⟩ (fun hS => ?_)
          clear hK K
          (try simp only [List.getElem_toArray]); (try simp only [List.getElem_cons_succ]); (try simp only [List.getElem_cons_zero]); (try simp only [Act.put]); (try simp only [List.setIfInBounds_toArray]); (try simp only [List.set_cons_succ]); (try simp only [List.set_cons_zero])
          refine wpAnyH_ready (rs := [6]) (by kernel_rfl) (by simp) ?_
          refine AllReadyH.cons (o := _) rfl (fun K hK => ?_) AllReadyH.nil
          rw [if_pos (by rfl)]
          go_simp
          go_at_call 20
          refine (HI.out _ _ _ _ (by exact h0a0.rd) (by exact h0a1.rd) (by exact h0a2.rd)).mono ?_
          rintro e w55 ⟨u, bh0_0, bh0_1, bh0_2, bh0_3, rfl, h0, fh0_0, fh0_1, fh0_2, fh0_3, hb55⟩
          obtain ⟨cs_h0, e_h0, R_h0⟩ := h0.row
          subst e_h0
          have F_h0 : ∀ y ∈ (bh0_0 ++ (bh0_1 ++ (bh0_2 ++ bh0_3))), w54.heap.size ≤ y := all_app fh0_0 (all_app fh0_1 (all_app fh0_2 fh0_3))
          (try have nbk_h0 : _ ∉ (bh0_0 ++ (bh0_1 ++ (bh0_2 ++ bh0_3))) := fun hm => Nat.not_lt.2 (F_h0 _ hm) NB.lt)
          have dj_w0_h0 : Dj (bw0_0 ++ (bw0_1 ++ (bw0_2 ++ bw0_3))) (bh0_0 ++ (bh0_1 ++ (bh0_2 ++ bh0_3))) := fun y hy hm => Nat.not_lt.2 (F_h0 y hm) (w0.lt y hy)
          have dj_xc0_h0 : Dj (bxc0_0 ++ (bxc0_1 ++ bxc0_2)) (bh0_0 ++ (bh0_1 ++ (bh0_2 ++ bh0_3))) := fun y hy hm => Nat.not_lt.2 (F_h0 y hm) (xc0.lt y hy)
          have dj_xc1_h0 : Dj bxc1_0 (bh0_0 ++ (bh0_1 ++ (bh0_2 ++ bh0_3))) := fun y hy hm => Nat.not_lt.2 (F_h0 y hm) (xc1.lt y hy)
          have dj_xc2_h0 : Dj bxc2_0 (bh0_0 ++ (bh0_1 ++ (bh0_2 ++ bh0_3))) := fun y hy hm => Nat.not_lt.2 (F_h0 y hm) (xc2.lt y hy)
          have dj_g0_h0 : Dj (bg0_0 ++ (bg0_1 ++ (bg0_2 ++ bg0_3))) (bh0_0 ++ (bh0_1 ++ (bh0_2 ++ bh0_3))) := fun y hy hm => Nat.not_lt.2 (F_h0 y hm) (g0.lt y hy)
          have dj_h0a0_h0 : Dj (bh0a0_0 ++ (bh0a0_1 ++ bh0a0_2)) (bh0_0 ++ (bh0_1 ++ (bh0_2 ++ bh0_3))) := fun y hy hm => Nat.not_lt.2 (F_h0 y hm) (h0a0.lt y hy)
          have dj_h0a1_h0 : Dj bh0a1_0 (bh0_0 ++ (bh0_1 ++ (bh0_2 ++ bh0_3))) := fun y hy hm => Nat.not_lt.2 (F_h0 y hm) (h0a1.lt y hy)
          have dj_h0a2_h0 : Dj bh0a2_0 (bh0_0 ++ (bh0_1 ++ (bh0_2 ++ bh0_3))) := fun y hy hm => Nat.not_lt.2 (F_h0 y hm) (h0a2.lt y hy)
          have nb_X0_h0 : w.heap.size ∉ (bh0_0 ++ (bh0_1 ++ (bh0_2 ++ bh0_3))) := fun hm => Nat.not_lt.2 (F_h0 _ hm) X0.lt
          have nb_X1_h0 : (w.heap.size + 1) ∉ (bh0_0 ++ (bh0_1 ++ (bh0_2 ++ bh0_3))) := fun hm => Nat.not_lt.2 (F_h0 _ hm) X1.lt
          have nb_X2_h0 : (w.heap.size + 1 + 1) ∉ (bh0_0 ++ (bh0_1 ++ (bh0_2 ++ bh0_3))) := fun hm => Nat.not_lt.2 (F_h0 _ hm) X2.lt
          have nb_Yw0_h0 : nbw0 ∉ (bh0_0 ++ (bh0_1 ++ (bh0_2 ++ bh0_3))) := fun hm => Nat.not_lt.2 (F_h0 _ hm) Yw0.lt
          have nb_Z0_h0 : w25.heap.size ∉ (bh0_0 ++ (bh0_1 ++ (bh0_2 ++ bh0_3))) := fun hm => Nat.not_lt.2 (F_h0 _ hm) Z0.lt
          have nb_Z1_h0 : w27.heap.size ∉ (bh0_0 ++ (bh0_1 ++ (bh0_2 ++ bh0_3))) := fun hm => Nat.not_lt.2 (F_h0 _ hm) Z1.lt
          have nb_Z2_h0 : w29.heap.size ∉ (bh0_0 ++ (bh0_1 ++ (bh0_2 ++ bh0_3))) := fun hm => Nat.not_lt.2 (F_h0 _ hm) Z2.lt
          have nb_Yg0_h0 : w31.heap.size ∉ (bh0_0 ++ (bh0_1 ++ (bh0_2 ++ bh0_3))) := fun hm => Nat.not_lt.2 (F_h0 _ hm) Yg0.lt
          have G_h0 : ∀ y ∈ (bh0_0 ++ (bh0_1 ++ (bh0_2 ++ bh0_3))), w.heap.size ≤ y := fun y hy => Nat.le_trans B.size (F_h0 y hy)
          clear F_h0
          (try replace NB := NB.keep hb55)
          replace X0 := X0.keep hb55
          replace X1 := X1.keep hb55
          replace X2 := X2.keep hb55
          replace Yw0 := Yw0.keep hb55
          replace Z0 := Z0.keep hb55
          replace Z1 := Z1.keep hb55
          replace Z2 := Z2.keep hb55
          replace Yg0 := Yg0.keep hb55
          replace w0 := w0.keep hb55
          replace xc0 := xc0.keep hb55
          replace xc1 := xc1.keep hb55
          replace xc2 := xc2.keep hb55
          replace g0 := g0.keep hb55
          replace h0a0 := h0a0.keep hb55
          replace h0a1 := h0a1.keep hb55
          replace h0a2 := h0a2.keep hb55
          replace B := B.trans (hb55.mono B.size)
          clear hb55 fh0_0 fh0_1 fh0_2 fh0_3
          (try dsimp only)
          refine hK.out _ _ ⟨X0, X1, X2⟩ (fun hS => ?_)
          clear hK K
          (try simp only [List.getElem_toArray]); (try simp only [List.getElem_cons_succ]); (try simp only [List.getElem_cons_zero]); (try simp only [Act.put]); (try simp only [List.setIfInBounds_toArray]); (try simp only [List.set_cons_succ]); (try simp only [List.set_cons_zero])
          refine wpAnyH_ready (rs := [8]) (by kernel_rfl) (by simp) ?_
          refine AllReadyH.cons (o := _) rfl (fun K hK => ?_) AllReadyH.nil
          refine step_store_blk rfl 43 _ _ rfl w46.heap.size cs_h0 rfl rfl NB (by rw [R_h0.1]; rfl) (R_h0.hi (by kernel_rfl)) R_h0.2 ?_
          intro wE YE OE
          refine hK.out _ _ ⟨(X0.off OE (fun hm => nbx_X0 (List.mem_singleton.1 hm))), (X1.off OE (fun hm => nbx_X1 (List.mem_singleton.1 hm))), (X2.off OE (fun hm => nbx_X2 (List.mem_singleton.1 hm)))⟩ (fun hS => ?_)
          clear hK K
          (try simp only [List.getElem_toArray]); (try simp only [List.getElem_cons_succ]); (try simp only [List.getElem_cons_zero]); (try simp only [Act.put]); (try simp only [List.setIfInBounds_toArray]); (try simp only [List.set_cons_succ]); (try simp only [List.set_cons_zero])
          refine wpAnyH_done (by kernel_rfl) ?_ _
          have FIN : ∃ nz cs_h0 bh0_0 bh0_1 bh0_2 bh0_3, (Value.pointer (some ⟨w46.heap.size, 0, none⟩)) = .pointer (some ⟨nz, 0, none⟩) ∧ Blk wE w.heap.size 31 cs0 ∧ Blk wE (w.heap.size + 1) 33 cs1 ∧ Blk wE (w.heap.size + 1 + 1) 33 cs2 ∧ Blk wE nbw0 43 cs_w0 ∧ Blk wE w25.heap.size 41 cs_xc0 ∧ Blk wE w27.heap.size 36 cs_xc1 ∧ Blk wE w29.heap.size 36 cs_xc2 ∧ Blk wE w31.heap.size 43 cs_g0 ∧ Below w.heap.size w wE ∧ OwMixResult wE (.agg cs_w0) r bw0_0 bw0_1 bw0_2 bw0_3 ∧ OwNet wE (.agg cs_xc0) (mkNet 1 x0) bxc0_0 bxc0_1 bxc0_2 ∧ OwMirror wE (.agg cs_xc1) (mkMirror (1 + (cntNet x0 : Nat)) x1) bxc1_0 ∧ OwMirror wE (.agg cs_xc2) (mkMirror (1 + (cntNet x0 : Nat) + (cntMirror x1 : Nat)) x2) bxc2_0 ∧ OwMixResult wE (.agg cs_g0) (mkMixResult 1 r) bg0_0 bg0_1 bg0_2 bg0_3 ∧ OwMixResult wE (.agg cs_h0) r bh0_0 bh0_1 bh0_2 bh0_3 ∧ Rw 19 cs_h0 ∧ Blk wE nz 43 cs_h0 ∧ Dj (bw0_0 ++ (bw0_1 ++ (bw0_2 ++ bw0_3))) (bh0_0 ++ (bh0_1 ++ (bh0_2 ++ bh0_3))) ∧ Dj (bxc0_0 ++ (bxc0_1 ++ bxc0_2)) (bh0_0 ++ (bh0_1 ++ (bh0_2 ++ bh0_3))) ∧ Dj bxc1_0 (bh0_0 ++ (bh0_1 ++ (bh0_2 ++ bh0_3))) ∧ Dj bxc2_0 (bh0_0 ++ (bh0_1 ++ (bh0_2 ++ bh0_3))) ∧ Dj (bg0_0 ++ (bg0_1 ++ (bg0_2 ++ bg0_3))) (bh0_0 ++ (bh0_1 ++ (bh0_2 ++ bh0_3))) ∧ w.heap.size ∉ (bh0_0 ++ (bh0_1 ++ (bh0_2 ++ bh0_3))) ∧ (w.heap.size + 1) ∉ (bh0_0 ++ (bh0_1 ++ (bh0_2 ++ bh0_3))) ∧ (w.heap.size + 1 + 1) ∉ (bh0_0 ++ (bh0_1 ++ (bh0_2 ++ bh0_3))) ∧ nbw0 ∉ (bh0_0 ++ (bh0_1 ++ (bh0_2 ++ bh0_3))) ∧ w25.heap.size ∉ (bh0_0 ++ (bh0_1 ++ (bh0_2 ++ bh0_3))) ∧ w27.heap.size ∉ (bh0_0 ++ (bh0_1 ++ (bh0_2 ++ bh0_3))) ∧ w29.heap.size ∉ (bh0_0 ++ (bh0_1 ++ (bh0_2 ++ bh0_3))) ∧ w31.heap.size ∉ (bh0_0 ++ (bh0_1 ++ (bh0_2 ++ bh0_3))) ∧ (∀ y ∈ (bh0_0 ++ (bh0_1 ++ (bh0_2 ++ bh0_3))), w.heap.size ≤ y) ∧ nz ∉ (bw0_0 ++ (bw0_1 ++ (bw0_2 ++ bw0_3))) ∧ nz ∉ (bxc0_0 ++ (bxc0_1 ++ bxc0_2)) ∧ nz ∉ bxc1_0 ∧ nz ∉ bxc2_0 ∧ nz ∉ (bg0_0 ++ (bg0_1 ++ (bg0_2 ++ bg0_3))) ∧ nz ∉ (bh0_0 ++ (bh0_1 ++ (bh0_2 ++ bh0_3))) := ⟨w46.heap.size, cs_h0, bh0_0, bh0_1, bh0_2, bh0_3, rfl, X0.off OE (fun hm => nbx_X0 (List.mem_singleton.1 hm)), X1.off OE (fun hm => nbx_X1 (List.mem_singleton.1 hm)), X2.off OE (fun hm => nbx_X2 (List.mem_singleton.1 hm)), Yw0.off OE (fun hm => nbx_Yw0 (List.mem_singleton.1 hm)), Z0.off OE (fun hm => nbx_Z0 (List.mem_singleton.1 hm)), Z1.off OE (fun hm => nbx_Z1 (List.mem_singleton.1 hm)), Z2.off OE (fun hm => nbx_Z2 (List.mem_singleton.1 hm)), Yg0.off OE (fun hm => nbx_Yg0 (List.mem_singleton.1 hm)), B.trans (OE.toBelow B.size (fun y hy => by rw [List.mem_singleton.1 hy]; exact gNB)), w0.off OE (fun y hy hm => nbk_w0 (by have e := List.mem_singleton.1 hm; subst e; exact hy)), xc0.off OE (fun y hy hm => nbk_xc0 (by have e := List.mem_singleton.1 hm; subst e; exact hy)), xc1.off OE (fun y hy hm => nbk_xc1 (by have e := List.mem_singleton.1 hm; subst e; exact hy)), xc2.off OE (fun y hy hm => nbk_xc2 (by have e := List.mem_singleton.1 hm; subst e; exact hy)), g0.off OE (fun y hy hm => nbk_g0 (by have e := List.mem_singleton.1 hm; subst e; exact hy)), h0.off OE (fun y hy hm => nbk_h0 (by have e := List.mem_singleton.1 hm; subst e; exact hy)), R_h0, YE, dj_w0_h0, dj_xc0_h0, dj_xc1_h0, dj_xc2_h0, dj_g0_h0, nb_X0_h0, nb_X1_h0, nb_X2_h0, nb_Yw0_h0, nb_Z0_h0, nb_Z1_h0, nb_Z2_h0, nb_Yg0_h0, G_h0, nbk_w0, nbk_xc0, nbk_xc1, nbk_xc2, nbk_g0, nbk_h0⟩
          go_wp2
          go_meet
          case rel => exact FIN
      · rw [if_pos (by rfl)]
        go_simp
        have nbx_X0 : w.heap.size ≠ w45.heap.size := Nat.ne_of_lt X0.lt
        have nbx_X1 : (w.heap.size + 1) ≠ w45.heap.size := Nat.ne_of_lt X1.lt
        have nbx_X2 : (w.heap.size + 1 + 1) ≠ w45.heap.size := Nat.ne_of_lt X2.lt
        have nbx_Yw0 : nbw0 ≠ w45.heap.size := Nat.ne_of_lt Yw0.lt
        have nbx_Z0 : w25.heap.size ≠ w45.heap.size := Nat.ne_of_lt Z0.lt
        have nbx_Z1 : w27.heap.size ≠ w45.heap.size := Nat.ne_of_lt Z1.lt
        have nbx_Z2 : w29.heap.size ≠ w45.heap.size := Nat.ne_of_lt Z2.lt
        have nbx_Yg0 : w31.heap.size ≠ w45.heap.size := Nat.ne_of_lt Yg0.lt
        have nbk_w0 : w45.heap.size ∉ (bw0_0 ++ (bw0_1 ++ (bw0_2 ++ bw0_3))) := fun hm => Nat.lt_irrefl _ (w0.lt _ hm)
        have nbk_xc0 : w45.heap.size ∉ (bxc0_0 ++ (bxc0_1 ++ bxc0_2)) := fun hm => Nat.lt_irrefl _ (xc0.lt _ hm)
        have nbk_xc1 : w45.heap.size ∉ bxc1_0 := fun hm => Nat.lt_irrefl _ (xc1.lt _ hm)
        have nbk_xc2 : w45.heap.size ∉ bxc2_0 := fun hm => Nat.lt_irrefl _ (xc2.lt _ hm)
        have nbk_g0 : w45.heap.size ∉ (bg0_0 ++ (bg0_1 ++ (bg0_2 ++ bg0_3))) := fun hm => Nat.lt_irrefl _ (g0.lt _ hm)
        replace X0 := X0.alloc (.cells #[.int .i64 0, .int .i64 0, .slice none 0 0, .slice none 0 0, .slice none 0 0, .int .i64 0, .slice none 0 0, .int .i64 0, .int .i64 0, .int .i64 0, .bool false, .bool false, .int .i64 0, .int .i64 0, .int .i64 0, .int .i64 0, .int .i64 0, .int .i64 0, .int .i64 0] 43)
        replace X1 := X1.alloc (.cells #[.int .i64 0, .int .i64 0, .slice none 0 0, .slice none 0 0, .slice none 0 0, .int .i64 0, .slice none 0 0, .int .i64 0, .int .i64 0, .int .i64 0, .bool false, .bool false, .int .i64 0, .int .i64 0, .int .i64 0, .int .i64 0, .int .i64 0, .int .i64 0, .int .i64 0] 43)
        replace X2 := X2.alloc (.cells #[.int .i64 0, .int .i64 0, .slice none 0 0, .slice none 0 0, .slice none 0 0, .int .i64 0, .slice none 0 0, .int .i64 0, .int .i64 0, .int .i64 0, .bool false, .bool false, .int .i64 0, .int .i64 0, .int .i64 0, .int .i64 0, .int .i64 0, .int .i64 0, .int .i64 0] 43)
        replace Yw0 := Yw0.alloc (.cells #[.int .i64 0, .int .i64 0, .slice none 0 0, .slice none 0 0, .slice none 0 0, .int .i64 0, .slice none 0 0, .int .i64 0, .int .i64 0, .int .i64 0, .bool false, .bool false, .int .i64 0, .int .i64 0, .int .i64 0, .int .i64 0, .int .i64 0, .int .i64 0, .int .i64 0] 43)
        replace Z0 := Z0.alloc (.cells #[.int .i64 0, .int .i64 0, .slice none 0 0, .slice none 0 0, .slice none 0 0, .int .i64 0, .slice none 0 0, .int .i64 0, .int .i64 0, .int .i64 0, .bool false, .bool false, .int .i64 0, .int .i64 0, .int .i64 0, .int .i64 0, .int .i64 0, .int .i64 0, .int .i64 0] 43)
        replace Z1 := Z1.alloc (.cells #[.int .i64 0, .int .i64 0, .slice none 0 0, .slice none 0 0, .slice none 0 0, .int .i64 0, .slice none 0 0, .int .i64 0, .int .i64 0, .int .i64 0, .bool false, .bool false, .int .i64 0, .int .i64 0, .int .i64 0, .int .i64 0, .int .i64 0, .int .i64 0, .int .i64 0] 43)
        replace Z2 := Z2.alloc (.cells #[.int .i64 0, .int .i64 0, .slice none 0 0, .slice none 0 0, .slice none 0 0, .int .i64 0, .slice none 0 0, .int .i64 0, .int .i64 0, .int .i64 0, .bool false, .bool false, .int .i64 0, .int .i64 0, .int .i64 0, .int .i64 0, .int .i64 0, .int .i64 0, .int .i64 0] 43)
        replace Yg0 := Yg0.alloc (.cells #[.int .i64 0, .int .i64 0, .slice none 0 0, .slice none 0 0, .slice none 0 0, .int .i64 0, .slice none 0 0, .int .i64 0, .int .i64 0, .int .i64 0, .bool false, .bool false, .int .i64 0, .int .i64 0, .int .i64 0, .int .i64 0, .int .i64 0, .int .i64 0, .int .i64 0] 43)
        replace w0 := w0.alloc (.cells #[.int .i64 0, .int .i64 0, .slice none 0 0, .slice none 0 0, .slice none 0 0, .int .i64 0, .slice none 0 0, .int .i64 0, .int .i64 0, .int .i64 0, .bool false, .bool false, .int .i64 0, .int .i64 0, .int .i64 0, .int .i64 0, .int .i64 0, .int .i64 0, .int .i64 0] 43)
        replace xc0 := xc0.alloc (.cells #[.int .i64 0, .int .i64 0, .slice none 0 0, .slice none 0 0, .slice none 0 0, .int .i64 0, .slice none 0 0, .int .i64 0, .int .i64 0, .int .i64 0, .bool false, .bool false, .int .i64 0, .int .i64 0, .int .i64 0, .int .i64 0, .int .i64 0, .int .i64 0, .int .i64 0] 43)
        replace xc1 := xc1.alloc (.cells #[.int .i64 0, .int .i64 0, .slice none 0 0, .slice none 0 0, .slice none 0 0, .int .i64 0, .slice none 0 0, .int .i64 0, .int .i64 0, .int .i64 0, .bool false, .bool false, .int .i64 0, .int .i64 0, .int .i64 0, .int .i64 0, .int .i64 0, .int .i64 0, .int .i64 0] 43)
        replace xc2 := xc2.alloc (.cells #[.int .i64 0, .int .i64 0, .slice none 0 0, .slice none 0 0, .slice none 0 0, .int .i64 0, .slice none 0 0, .int .i64 0, .int .i64 0, .int .i64 0, .bool false, .bool false, .int .i64 0, .int .i64 0, .int .i64 0, .int .i64 0, .int .i64 0, .int .i64 0, .int .i64 0] 43)
        replace g0 := g0.alloc (.cells #[.int .i64 0, .int .i64 0, .slice none 0 0, .slice none 0 0, .slice none 0 0, .int .i64 0, .slice none 0 0, .int .i64 0, .int .i64 0, .int .i64 0, .bool false, .bool false, .int .i64 0, .int .i64 0, .int .i64 0, .int .i64 0, .int .i64 0, .int .i64 0, .int .i64 0] 43)
        have NB := Blk.new w45.drew 43 #[.int .i64 0, .int .i64 0, .slice none 0 0, .slice none 0 0, .slice none 0 0, .int .i64 0, .slice none 0 0, .int .i64 0, .int .i64 0, .int .i64 0, .bool false, .bool false, .int .i64 0, .int .i64 0, .int .i64 0, .int .i64 0, .int .i64 0, .int .i64 0, .int .i64 0]
        have gNB : w.heap.size ≤ w45.heap.size := B.size
        replace B := B.alloc B.size (.cells #[.int .i64 0, .int .i64 0, .slice none 0 0, .slice none 0 0, .slice none 0 0, .int .i64 0, .slice none 0 0, .int .i64 0, .int .i64 0, .int .i64 0, .bool false, .bool false, .int .i64 0, .int .i64 0, .int .i64 0, .int .i64 0, .int .i64 0, .int .i64 0, .int .i64 0] 43)
        refine hK.out _ _ ⟨X0, X1, X2⟩ (fun hS => ?_)
        clear hK K
        (try simp only [List.getElem_toArray]); (try simp only [List.getElem_cons_succ]); (try simp only [List.getElem_cons_zero]); (try simp only [Act.put]); (try simp only [List.setIfInBounds_toArray]); (try simp only [List.set_cons_succ]); (try simp only [List.set_cons_zero])
        refine wpAnyH_ready (rs := [1]) (by kernel_rfl) (by simp) ?_
        refine AllReadyH.cons (o := _) rfl (fun K hK => ?_) AllReadyH.nil
        rw [if_pos (by rfl)]
        go_simp
        go_at_call 9
        refine (toNet_ow _ x0 _ (by exact r0.below B) (by omega)).mono ?_
        rintro e w56 ⟨u, bh0a0_0, bh0a0_1, bh0a0_2, rfl, h0a0, fh0a0_0, fh0a0_1, fh0a0_2, hb56⟩
        obtain ⟨cs_h0a0, e_h0a0, R_h0a0⟩ := h0a0.row
        subst e_h0a0
        have F_h0a0 : ∀ y ∈ (bh0a0_0 ++ (bh0a0_1 ++ bh0a0_2)), (w45.drew.alloc (.cells #[.int .i64 0, .int .i64 0, .slice none 0 0, .slice none 0 0, .slice none 0 0, .int .i64 0, .slice none 0 0, .int .i64 0, .int .i64 0, .int .i64 0, .bool false, .bool false, .int .i64 0, .int .i64 0, .int .i64 0, .int .i64 0, .int .i64 0, .int .i64 0, .int .i64 0] 43)).heap.size ≤ y := all_app fh0a0_0 (all_app fh0a0_1 fh0a0_2)
        (try have nbk_h0a0 : _ ∉ (bh0a0_0 ++ (bh0a0_1 ++ bh0a0_2)) := fun hm => Nat.not_lt.2 (F_h0a0 _ hm) NB.lt)
        have dj_w0_h0a0 : Dj (bw0_0 ++ (bw0_1 ++ (bw0_2 ++ bw0_3))) (bh0a0_0 ++ (bh0a0_1 ++ bh0a0_2)) := fun y hy hm => Nat.not_lt.2 (F_h0a0 y hm) (w0.lt y hy)
        have dj_xc0_h0a0 : Dj (bxc0_0 ++ (bxc0_1 ++ bxc0_2)) (bh0a0_0 ++ (bh0a0_1 ++ bh0a0_2)) := fun y hy hm => Nat.not_lt.2 (F_h0a0 y hm) (xc0.lt y hy)
        have dj_xc1_h0a0 : Dj bxc1_0 (bh0a0_0 ++ (bh0a0_1 ++ bh0a0_2)) := fun y hy hm => Nat.not_lt.2 (F_h0a0 y hm) (xc1.lt y hy)
        have dj_xc2_h0a0 : Dj bxc2_0 (bh0a0_0 ++ (bh0a0_1 ++ bh0a0_2)) := fun y hy hm => Nat.not_lt.2 (F_h0a0 y hm) (xc2.lt y hy)
        have dj_g0_h0a0 : Dj (bg0_0 ++ (bg0_1 ++ (bg0_2 ++ bg0_3))) (bh0a0_0 ++ (bh0a0_1 ++ bh0a0_2)) := fun y hy hm => Nat.not_lt.2 (F_h0a0 y hm) (g0.lt y hy)
        have nb_X0_h0a0 : w.heap.size ∉ (bh0a0_0 ++ (bh0a0_1 ++ bh0a0_2)) := fun hm => Nat.not_lt.2 (F_h0a0 _ hm) X0.lt
        have nb_X1_h0a0 : (w.heap.size + 1) ∉ (bh0a0_0 ++ (bh0a0_1 ++ bh0a0_2)) := fun hm => Nat.not_lt.2 (F_h0a0 _ hm) X1.lt
        have nb_X2_h0a0 : (w.heap.size + 1 + 1) ∉ (bh0a0_0 ++ (bh0a0_1 ++ bh0a0_2)) := fun hm => Nat.not_lt.2 (F_h0a0 _ hm) X2.lt
        have nb_Yw0_h0a0 : nbw0 ∉ (bh0a0_0 ++ (bh0a0_1 ++ bh0a0_2)) := fun hm => Nat.not_lt.2 (F_h0a0 _ hm) Yw0.lt
        have nb_Z0_h0a0 : w25.heap.size ∉ (bh0a0_0 ++ (bh0a0_1 ++ bh0a0_2)) := fun hm => Nat.not_lt.2 (F_h0a0 _ hm) Z0.lt
        have nb_Z1_h0a0 : w27.heap.size ∉ (bh0a0_0 ++ (bh0a0_1 ++ bh0a0_2)) := fun hm => Nat.not_lt.2 (F_h0a0 _ hm) Z1.lt
        have nb_Z2_h0a0 : w29.heap.size ∉ (bh0a0_0 ++ (bh0a0_1 ++ bh0a0_2)) := fun hm => Nat.not_lt.2 (F_h0a0 _ hm) Z2.lt
        have nb_Yg0_h0a0 : w31.heap.size ∉ (bh0a0_0 ++ (bh0a0_1 ++ bh0a0_2)) := fun hm => Nat.not_lt.2 (F_h0a0 _ hm) Yg0.lt
        have G_h0a0 : ∀ y ∈ (bh0a0_0 ++ (bh0a0_1 ++ bh0a0_2)), w.heap.size ≤ y := fun y hy => Nat.le_trans B.size (F_h0a0 y hy)
        clear F_h0a0
        (try replace NB := NB.keep hb56)
        replace X0 := X0.keep hb56
        replace X1 := X1.keep hb56
        replace X2 := X2.keep hb56
        replace Yw0 := Yw0.keep hb56
        replace Z0 := Z0.keep hb56
        replace Z1 := Z1.keep hb56
        replace Z2 := Z2.keep hb56
        replace Yg0 := Yg0.keep hb56
        replace w0 := w0.keep hb56
        replace xc0 := xc0.keep hb56
        replace xc1 := xc1.keep hb56
        replace xc2 := xc2.keep hb56
        replace g0 := g0.keep hb56
        replace B := B.trans (hb56.mono B.size)
        clear hb56 fh0a0_0 fh0a0_1 fh0a0_2
        (try dsimp only)
        refine hK.out _ _ ⟨X0, X1, X2⟩ (fun hS => ?_)
        clear hK K
        (try simp only [List.getElem_toArray]); (try simp only [List.getElem_cons_succ]); (try simp only [List.getElem_cons_zero]); (try simp only [Act.put]); (try simp only [List.setIfInBounds_toArray]); (try simp only [List.set_cons_succ]); (try simp only [List.set_cons_zero])
        refine wpAnyH_ready (rs := [3]) (by kernel_rfl) (by simp) ?_
        refine AllReadyH.cons (o := _) rfl (fun K hK => ?_) AllReadyH.nil
        rw [if_pos (by rfl)]
        go_simp
        go_at_call 10
        refine (toMirror_ow _ x1 _ (by exact r1.below B) (by omega)).mono ?_
        rintro e w57 ⟨u, bh0a1_0, rfl, h0a1, fh0a1_0, hb57⟩
        obtain ⟨cs_h0a1, e_h0a1, R_h0a1⟩ := h0a1.row
        subst e_h0a1
        have F_h0a1 : ∀ y ∈ bh0a1_0, w56.heap.size ≤ y := fh0a1_0
        (try have nbk_h0a1 : _ ∉ bh0a1_0 := fun hm => Nat.not_lt.2 (F_h0a1 _ hm) NB.lt)
        have dj_w0_h0a1 : Dj (bw0_0 ++ (bw0_1 ++ (bw0_2 ++ bw0_3))) bh0a1_0 := fun y hy hm => Nat.not_lt.2 (F_h0a1 y hm) (w0.lt y hy)
        have dj_xc0_h0a1 : Dj (bxc0_0 ++ (bxc0_1 ++ bxc0_2)) bh0a1_0 := fun y hy hm => Nat.not_lt.2 (F_h0a1 y hm) (xc0.lt y hy)
        have dj_xc1_h0a1 : Dj bxc1_0 bh0a1_0 := fun y hy hm => Nat.not_lt.2 (F_h0a1 y hm) (xc1.lt y hy)
        have dj_xc2_h0a1 : Dj bxc2_0 bh0a1_0 := fun y hy hm => Nat.not_lt.2 (F_h0a1 y hm) (xc2.lt y hy)
        have dj_g0_h0a1 : Dj (bg0_0 ++ (bg0_1 ++ (bg0_2 ++ bg0_3))) bh0a1_0 := fun y hy hm => Nat.not_lt.2 (F_h0a1 y hm) (g0.lt y hy)
        have dj_h0a0_h0a1 : Dj (bh0a0_0 ++ (bh0a0_1 ++ bh0a0_2)) bh0a1_0 := fun y hy hm => Nat.not_lt.2 (F_h0a1 y hm) (h0a0.lt y hy)
        have nb_X0_h0a1 : w.heap.size ∉ bh0a1_0 := fun hm => Nat.not_lt.2 (F_h0a1 _ hm) X0.lt
        have nb_X1_h0a1 : (w.heap.size + 1) ∉ bh0a1_0 := fun hm => Nat.not_lt.2 (F_h0a1 _ hm) X1.lt
        have nb_X2_h0a1 : (w.heap.size + 1 + 1) ∉ bh0a1_0 := fun hm => Nat.not_lt.2 (F_h0a1 _ hm) X2.lt
        have nb_Yw0_h0a1 : nbw0 ∉ bh0a1_0 := fun hm => Nat.not_lt.2 (F_h0a1 _ hm) Yw0.lt
        have nb_Z0_h0a1 : w25.heap.size ∉ bh0a1_0 := fun hm => Nat.not_lt.2 (F_h0a1 _ hm) Z0.lt
        have nb_Z1_h0a1 : w27.heap.size ∉ bh0a1_0 := fun hm => Nat.not_lt.2 (F_h0a1 _ hm) Z1.lt
        have nb_Z2_h0a1 : w29.heap.size ∉ bh0a1_0 := fun hm => Nat.not_lt.2 (F_h0a1 _ hm) Z2.lt
        have nb_Yg0_h0a1 : w31.heap.size ∉ bh0a1_0 := fun hm => Nat.not_lt.2 (F_h0a1 _ hm) Yg0.lt
        have G_h0a1 : ∀ y ∈ bh0a1_0, w.heap.size ≤ y := fun y hy => Nat.le_trans B.size (F_h0a1 y hy)
        clear F_h0a1
        (try replace NB := NB.keep hb57)
        replace X0 := X0.keep hb57
        replace X1 := X1.keep hb57
        replace X2 := X2.keep hb57
        replace Yw0 := Yw0.keep hb57
        replace Z0 := Z0.keep hb57
        replace Z1 := Z1.keep hb57
        replace Z2 := Z2.keep hb57
        replace Yg0 := Yg0.keep hb57
        replace w0 := w0.keep hb57
        replace xc0 := xc0.keep hb57
        replace xc1 := xc1.keep hb57
        replace xc2 := xc2.keep hb57
        replace g0 := g0.keep hb57
        replace h0a0 := h0a0.keep hb57
        replace B := B.trans (hb57.mono B.size)
        clear hb57 fh0a1_0
        (try dsimp only)
        refine hK.out _ _ ⟨X0, X1, X2⟩ (fun hS => ?_)
        clear hK K
        (try simp only [List.getElem_toArray]); (try simp only [List.getElem_cons_succ]); (try simp only [List.getElem_cons_zero]); (try simp only [Act.put]); (try simp only [List.setIfInBounds_toArray]); (try simp only [List.set_cons_succ]); (try simp only [List.set_cons_zero])
        refine wpAnyH_ready (rs := [5]) (by kernel_rfl) (by simp) ?_
        refine AllReadyH.cons (o := _) rfl (fun K hK => ?_) AllReadyH.nil
        rw [if_pos (by rfl)]
        go_simp
        go_at_call 10
        refine (toMirror_ow _ x2 _ (by exact r2.below B) (by omega)).mono ?_
        rintro e w58 ⟨u, bh0a2_0, rfl, h0a2, fh0a2_0, hb58⟩
        obtain ⟨cs_h0a2, e_h0a2, R_h0a2⟩ := h0a2.row
        subst e_h0a2
        have F_h0a2 : ∀ y ∈ bh0a2_0, w57.heap.size ≤ y := fh0a2_0
        (try have nbk_h0a2 : _ ∉ bh0a2_0 := fun hm => Nat.not_lt.2 (F_h0a2 _ hm) NB.lt)
        have dj_w0_h0a2 : Dj (bw0_0 ++ (bw0_1 ++ (bw0_2 ++ bw0_3))) bh0a2_0 := fun y hy hm => Nat.not_lt.2 (F_h0a2 y hm) (w0.lt y hy)
        have dj_xc0_h0a2 : Dj (bxc0_0 ++ (bxc0_1 ++ bxc0_2)) bh0a2_0 := fun y hy hm => Nat.not_lt.2 (F_h0a2 y hm) (xc0.lt y hy)
        have dj_xc1_h0a2 : Dj bxc1_0 bh0a2_0 := fun y hy hm => Nat.not_lt.2 (F_h0a2 y hm) (xc1.lt y hy)
        have dj_xc2_h0a2 : Dj bxc2_0 bh0a2_0 := fun y hy hm => Nat.not_lt.2 (F_h0a2 y hm) (xc2.lt y hy)
        have dj_g0_h0a2 : Dj (bg0_0 ++ (bg0_1 ++ (bg0_2 ++ bg0_3))) bh0a2_0 := fun y hy hm => Nat.not_lt.2 (F_h0a2 y hm) (g0.lt y hy)
        have dj_h0a0_h0a2 : Dj (bh0a0_0 ++ (bh0a0_1 ++ bh0a0_2)) bh0a2_0 := fun y hy hm => Nat.not_lt.2 (F_h0a2 y hm) (h0a0.lt y hy)
        have dj_h0a1_h0a2 : Dj bh0a1_0 bh0a2_0 := fun y hy hm => Nat.not_lt.2 (F_h0a2 y hm) (h0a1.lt y hy)
        have nb_X0_h0a2 : w.heap.size ∉ bh0a2_0 := fun hm => Nat.not_lt.2 (F_h0a2 _ hm) X0.lt
        have nb_X1_h0a2 : (w.heap.size + 1) ∉ bh0a2_0 := fun hm => Nat.not_lt.2 (F_h0a2 _ hm) X1.lt
        have nb_X2_h0a2 : (w.heap.size + 1 + 1) ∉ bh0a2_0 := fun hm => Nat.not_lt.2 (F_h0a2 _ hm) X2.lt
        have nb_Yw0_h0a2 : nbw0 ∉ bh0a2_0 := fun hm => Nat.not_lt.2 (F_h0a2 _ hm) Yw0.lt
        have nb_Z0_h0a2 : w25.heap.size ∉ bh0a2_0 := fun hm => Nat.not_lt.2 (F_h0a2 _ hm) Z0.lt
        have nb_Z1_h0a2 : w27.heap.size ∉ bh0a2_0 := fun hm => Nat.not_lt.2 (F_h0a2 _ hm) Z1.lt
        have nb_Z2_h0a2 : w29.heap.size ∉ bh0a2_0 := fun hm => Nat.not_lt.2 (F_h0a2 _ hm) Z2.lt
        have nb_Yg0_h0a2 : w31.heap.size ∉ bh0a2_0 := fun hm => Nat.not_lt.2 (F_h0a2 _ hm) Yg0.lt
        have G_h0a2 : ∀ y ∈ bh0a2_0, w.heap.size ≤ y := fun y hy => Nat.le_trans B.size (F_h0a2 y hy)
        clear F_h0a2
        (try replace NB := NB.keep hb58)
        replace X0 := X0.keep hb58
        replace X1 := X1.keep hb58
        replace X2 := X2.keep hb58
        replace Yw0 := Yw0.keep hb58
        replace Z0 := Z0.keep hb58
        replace Z1 := Z1.keep hb58
        replace Z2 := Z2.keep hb58
        replace Yg0 := Yg0.keep hb58
        replace w0 := w0.keep hb58
        replace xc0 := xc0.keep hb58
        replace xc1 := xc1.keep hb58
        replace xc2 := xc2.keep hb58
        replace g0 := g0.keep hb58
        replace h0a0 := h0a0.keep hb58
        replace h0a1 := h0a1.keep hb58
        replace B := B.trans (hb58.mono B.size)
        clear hb58 fh0a2_0
        (try dsimp only)
        refine hK.out _ _ ⟨X0, X1, X2⟩ (fun hS => ?_)
        clear hK K
        (try simp only [List.getElem_toArray]); (try simp only [List.getElem_cons_succ]); (try simp only [List.getElem_cons_zero]); (try simp only [Act.put]); (try simp only [List.setIfInBounds_toArray]); (try simp only [List.set_cons_succ]); (try simp only [List.set_cons_zero])
        refine wpAnyH_ready (rs := [6]) (by kernel_rfl) (by simp) ?_
        refine AllReadyH.cons (o := _) rfl (fun K hK => ?_) AllReadyH.nil
        rw [if_pos (by rfl)]
        go_simp
        go_at_call 20
        refine (HI.out _ _ _ _ (by exact h0a0.rd) (by exact h0a1.rd) (by exact h0a2.rd)).mono ?_
        rintro e w59 ⟨u, bh0_0, bh0_1, bh0_2, bh0_3, rfl, h0, fh0_0, fh0_1, fh0_2, fh0_3, hb59⟩
        obtain ⟨cs_h0, e_h0, R_h0⟩ := h0.row
        subst e_h0
        have F_h0 : ∀ y ∈ (bh0_0 ++ (bh0_1 ++ (bh0_2 ++ bh0_3))), w58.heap.size ≤ y := all_app fh0_0 (all_app fh0_1 (all_app fh0_2 fh0_3))
        (try have nbk_h0 : _ ∉ (bh0_0 ++ (bh0_1 ++ (bh0_2 ++ bh0_3))) := fun hm => Nat.not_lt.2 (F_h0 _ hm) NB.lt)
        have dj_w0_h0 : Dj (bw0_0 ++ (bw0_1 ++ (bw0_2 ++ bw0_3))) (bh0_0 ++ (bh0_1 ++ (bh0_2 ++ bh0_3))) := fun y hy hm => Nat.not_lt.2 (F_h0 y hm) (w0.lt y hy)
        have dj_xc0_h0 : Dj (bxc0_0 ++ (bxc0_1 ++ bxc0_2)) (bh0_0 ++ (bh0_1 ++ (bh0_2 ++ bh0_3))) := fun y hy hm => Nat.not_lt.2 (F_h0 y hm) (xc0.lt y hy)
        have dj_xc1_h0 : Dj bxc1_0 (bh0_0 ++ (bh0_1 ++ (bh0_2 ++ bh0_3))) := fun y hy hm => Nat.not_lt.2 (F_h0 y hm) (xc1.lt y hy)
        have dj_xc2_h0 : Dj bxc2_0 (bh0_0 ++ (bh0_1 ++ (bh0_2 ++ bh0_3))) := fun y hy hm => Nat.not_lt.2 (F_h0 y hm) (xc2.lt y hy)
        have dj_g0_h0 : Dj (bg0_0 ++ (bg0_1 ++ (bg0_2 ++ bg0_3))) (bh0_0 ++ (bh0_1 ++ (bh0_2 ++ bh0_3))) := fun y hy hm => Nat.not_lt.2 (F_h0 y hm) (g0.lt y hy)
        have dj_h0a0_h0 : Dj (bh0a0_0 ++ (bh0a0_1 ++ bh0a0_2)) (bh0_0 ++ (bh0_1 ++ (bh0_2 ++ bh0_3))) := fun y hy hm => Nat.not_lt.2 (F_h0 y hm) (h0a0.lt y hy)
        have dj_h0a1_h0 : Dj bh0a1_0 (bh0_0 ++ (bh0_1 ++ (bh0_2 ++ bh0_3))) := fun y hy hm => Nat.not_lt.2 (F_h0 y hm) (h0a1.lt y hy)
        have dj_h0a2_h0 : Dj bh0a2_0 (bh0_0 ++ (bh0_1 ++ (bh0_2 ++ bh0_3))) := fun y hy hm => Nat.not_lt.2 (F_h0 y hm) (h0a2.lt y hy)
        have nb_X0_h0 : w.heap.size ∉ (bh0_0 ++ (bh0_1 ++ (bh0_2 ++ bh0_3))) := fun hm => Nat.not_lt.2 (F_h0 _ hm) X0.lt
        have nb_X1_h0 : (w.heap.size + 1) ∉ (bh0_0 ++ (bh0_1 ++ (bh0_2 ++ bh0_3))) := fun hm => Nat.not_lt.2 (F_h0 _ hm) X1.lt
        have nb_X2_h0 : (w.heap.size + 1 + 1) ∉ (bh0_0 ++ (bh0_1 ++ (bh0_2 ++ bh0_3))) := fun hm => Nat.not_lt.2 (F_h0 _ hm) X2.lt
        have nb_Yw0_h0 : nbw0 ∉ (bh0_0 ++ (bh0_1 ++ (bh0_2 ++ bh0_3))) := fun hm => Nat.not_lt.2 (F_h0 _ hm) Yw0.lt
        have nb_Z0_h0 : w25.heap.size ∉ (bh0_0 ++ (bh0_1 ++ (bh0_2 ++ bh0_3))) := fun hm => Nat.not_lt.2 (F_h0 _ hm) Z0.lt
        have nb_Z1_h0 : w27.heap.size ∉ (bh0_0 ++ (bh0_1 ++ (bh0_2 ++ bh0_3))) := fun hm => Nat.not_lt.2 (F_h0 _ hm) Z1.lt
        have nb_Z2_h0 : w29.heap.size ∉ (bh0_0 ++ (bh0_1 ++ (bh0_2 ++ bh0_3))) := fun hm => Nat.not_lt.2 (F_h0 _ hm) Z2.lt
        have nb_Yg0_h0 : w31.heap.size ∉ (bh0_0 ++ (bh0_1 ++ (bh0_2 ++ bh0_3))) := fun hm => Nat.not_lt.2 (F_h0 _ hm) Yg0.lt
        have G_h0 : ∀ y ∈ (bh0_0 ++ (bh0_1 ++ (bh0_2 ++ bh0_3))), w.heap.size ≤ y := fun y hy => Nat.le_trans B.size (F_h0 y hy)
        clear F_h0
        (try replace NB := NB.keep hb59)
        replace X0 := X0.keep hb59
        replace X1 := X1.keep hb59
        replace X2 := X2.keep hb59
        replace Yw0 := Yw0.keep hb59
        replace Z0 := Z0.keep hb59
        replace Z1 := Z1.keep hb59
        replace Z2 := Z2.keep hb59
        replace Yg0 := Yg0.keep hb59
        replace w0 := w0.keep hb59
        replace xc0 := xc0.keep hb59
        replace xc1 := xc1.keep hb59
        replace xc2 := xc2.keep hb59
        replace g0 := g0.keep hb59
        replace h0a0 := h0a0.keep hb59
        replace h0a1 := h0a1.keep hb59
        replace h0a2 := h0a2.keep hb59
        replace B := B.trans (hb59.mono B.size)
        clear hb59 fh0_0 fh0_1 fh0_2 fh0_3
        (try dsimp only)
        refine hK.out _ _ ⟨X0, X1, X2⟩ (fun hS => ?_)
        clear hK K
        (try simp only [List.getElem_toArray]); (try simp only [List.getElem_cons_succ]); (try simp only [List.getElem_cons_zero]); (try simp only [Act.put]); (try simp only [List.setIfInBounds_toArray]); (try simp only [List.set_cons_succ]); (try simp only [List.set_cons_zero])
        refine wpAnyH_ready (rs := [8]) (by kernel_rfl) (by simp) ?_
        refine AllReadyH.cons (o := _) rfl (fun K hK => ?_) AllReadyH.nil
        refine step_store_blk rfl 43 _ _ rfl w45.heap.size cs_h0 rfl rfl NB (by rw [R_h0.1]; rfl) (R_h0.hi (by kernel_rfl)) R_h0.2 ?_
        intro wE YE OE
        refine hK.out _ _ ⟨(X0.off OE (fun hm => nbx_X0 (List.mem_singleton.1 hm))), (X1.off OE (fun hm => nbx_X1 (List.mem_singleton.1 hm))), (X2.off OE (fun hm => nbx_X2 (List.mem_singleton.1 hm)))⟩ (fun hS => ?_)
        clear hK K
        (try simp only [List.getElem_toArray]); (try simp only [List.getElem_cons_succ]); (try simp only [List.getElem_cons_zero]); (try simp only [Act.put]); (try simp only [List.setIfInBounds_toArray]); (try simp only [List.set_cons_succ]); (try simp only [List.set_cons_zero])
        refine wpAnyH_done (by kernel_rfl) ?_ _
        have FIN : ∃ nz cs_h0 bh0_0 bh0_1 bh0_2 bh0_3, (Value.pointer (some ⟨w45.heap.size, 0, none⟩)) = .pointer (some ⟨nz, 0, none⟩) ∧ Blk wE w.heap.size 31 cs0 ∧ Blk wE (w.heap.size + 1) 33 cs1 ∧ Blk wE (w.heap.size + 1 + 1) 33 cs2 ∧ Blk wE nbw0 43 cs_w0 ∧ Blk wE w25.heap.size 41 cs_xc0 ∧ Blk wE w27.heap.size 36 cs_xc1 ∧ Blk wE w29.heap.size 36 cs_xc2 ∧ Blk wE w31.heap.size 43 cs_g0 ∧ Below w.heap.size w wE ∧ OwMixResult wE (.agg cs_w0) r bw0_0 bw0_1 bw0_2 bw0_3 ∧ OwNet wE (.agg cs_xc0) (mkNet 1 x0) bxc0_0 bxc0_1 bxc0_2 ∧ OwMirror wE (.agg cs_xc1) (mkMirror (1 + (cntNet x0 : Nat)) x1) bxc1_0 ∧ OwMirror wE (.agg cs_xc2) (mkMirror (1 + (cntNet x0 : Nat) + (cntMirror x1 : Nat)) x2) bxc2_0 ∧ OwMixResult wE (.agg cs_g0) (mkMixResult 1 r) bg0_0 bg0_1 bg0_2 bg0_3 ∧ OwMixResult wE (.agg cs_h0) r bh0_0 bh0_1 bh0_2 bh0_3 ∧ Rw 19 cs_h0 ∧ Blk wE nz 43 cs_h0 ∧ Dj (bw0_0 ++ (bw0_1 ++ (bw0_2 ++ bw0_3))) (bh0_0 ++ (bh0_1 ++ (bh0_2 ++ bh0_3))) ∧ Dj (bxc0_0 ++ (bxc0_1 ++ bxc0_2)) (bh0_0 ++ (bh0_1 ++ (bh0_2 ++ bh0_3))) ∧ Dj bxc1_0 (bh0_0 ++ (bh0_1 ++ (bh0_2 ++ bh0_3))) ∧ Dj bxc2_0 (bh0_0 ++ (bh0_1 ++ (bh0_2 ++ bh0_3))) ∧ Dj (bg0_0 ++ (bg0_1 ++ (bg0_2 ++ bg0_3))) (bh0_0 ++ (bh0_1 ++ (bh0_2 ++ bh0_3))) ∧ w.heap.size ∉ (bh0_0 ++ (bh0_1 ++ (bh0_2 ++ bh0_3))) ∧ (w.heap.size + 1) ∉ (bh0_0 ++ (bh0_1 ++ (bh0_2 ++ bh0_3))) ∧ (w.heap.size + 1 + 1) ∉ (bh0_0 ++ (bh0_1 ++ (bh0_2 ++ bh0_3))) ∧ nbw0 ∉ (bh0_0 ++ (bh0_1 ++ (bh0_2 ++ bh0_3))) ∧ w25.heap.size ∉ (bh0_0 ++ (bh0_1 ++ (bh0_2 ++ bh0_3))) ∧ w27.heap.size ∉ (bh0_0 ++ (bh0_1 ++ (bh0_2 ++ bh0_3))) ∧ w29.heap.size ∉ (bh0_0 ++ (bh0_1 ++ (bh0_2 ++ bh0_3))) ∧ w31.heap.size ∉ (bh0_0 ++ (bh0_1 ++ (bh0_2 ++ bh0_3))) ∧ (∀ y ∈ (bh0_0 ++ (bh0_1 ++ (bh0_2 ++ bh0_3))), w.heap.size ≤ y) ∧ nz ∉ (bw0_0 ++ (bw0_1 ++ (bw0_2 ++ bw0_3))) ∧ nz ∉ (bxc0_0 ++ (bxc0_1 ++ bxc0_2)) ∧ nz ∉ bxc1_0 ∧ nz ∉ bxc2_0 ∧ nz ∉ (bg0_0 ++ (bg0_1 ++ (bg0_2 ++ bg0_3))) ∧ nz ∉ (bh0_0 ++ (bh0_1 ++ (bh0_2 ++ bh0_3))) := ⟨w45.heap.size, cs_h0, bh0_0, bh0_1, bh0_2, bh0_3, rfl, X0.off OE (fun hm => nbx_X0 (List.mem_singleton.1 hm)), X1.off OE (fun hm => nbx_X1 (List.mem_singleton.1 hm)), X2.off OE (fun hm => nbx_X2 (List.mem_singleton.1 hm)), Yw0.off OE (fun hm => nbx_Yw0 (List.mem_singleton.1 hm)), Z0.off OE (fun hm => nbx_Z0 (List.mem_singleton.1 hm)), Z1.off OE (fun hm => nbx_Z1 (List.mem_singleton.1 hm)), Z2.off OE (fun hm => nbx_Z2 (List.mem_singleton.1 hm)), Yg0.off OE (fun hm => nbx_Yg0 (List.mem_singleton.1 hm)), B.trans (OE.toBelow B.size (fun y hy => by rw [List.mem_singleton.1 hy]; exact gNB)), w0.off OE (fun y hy hm => nbk_w0 (by have e := List.mem_singleton.1 hm; subst e; exact hy)), xc0.off OE (fun y hy hm => nbk_xc0 (by have e := List.mem_singleton.1 hm; subst e; exact hy)), xc1.off OE (fun y hy hm => nbk_xc1 (by have e := List.mem_singleton.1 hm; subst e; exact hy)), xc2.off OE (fun y hy hm => nbk_xc2 (by have e := List.mem_singleton.1 hm; subst e; exact hy)), g0.off OE (fun y hy hm => nbk_g0 (by have e := List.mem_singleton.1 hm; subst e; exact hy)), h0.off OE (fun y hy hm => nbk_h0 (by have e := List.mem_singleton.1 hm; subst e; exact hy)), R_h0, YE, dj_w0_h0, dj_xc0_h0, dj_xc1_h0, dj_xc2_h0, dj_g0_h0, nb_X0_h0, nb_X1_h0, nb_X2_h0, nb_Yw0_h0, nb_Z0_h0, nb_Z1_h0, nb_Z2_h0, nb_Yg0_h0, G_h0, nbk_w0, nbk_xc0, nbk_xc1, nbk_xc2, nbk_g0, nbk_h0⟩
        go_wp2
        go_meet
        case rel => exact FIN
    case rest =>
      clear X0 X1 X2 Yw0 Z0 Z1 Z2 Yg0 B w0 xc0 xc1 xc2 g0
      obtain ⟨nbh0, cs_h0, bh0_0, bh0_1, bh0_2, bh0_3, rfl, X0, X1, X2, Yw0, Z0, Z1, Z2, Yg0, B, w0, xc0, xc1, xc2, g0, h0, R_h0, Yh0, dj_w0_h0, dj_xc0_h0, dj_xc1_h0, dj_xc2_h0, dj_g0_h0, nb_X0_h0, nb_X1_h0, nb_X2_h0, nb_Yw0_h0, nb_Z0_h0, nb_Z1_h0, nb_Z2_h0, nb_Yg0_h0, G_h0, nb_Yh0_w0, nb_Yh0_xc0, nb_Yh0_xc1, nb_Yh0_xc2, nb_Yh0_g0, nb_Yh0_h0⟩ := hcut
      obtain ⟨wc60, ewc⟩ : ∃ x : World, x = wc := ⟨_, rfl⟩
      subst ewc
      go_wp2_with (first | (refine wpList_load_blkg (by rfl) 31 _ rfl w.heap.size rfl X0 Tryz.underlying31 rfl (RC0.hi (by kernel_rfl)) ?_) | (refine wpList_load_blkg (by rfl) 33 _ rfl (w.heap.size + 1) rfl X1 Tryz.underlying33 rfl (RC1.hi (by kernel_rfl)) ?_) | (refine wpList_load_blkg (by rfl) 33 _ rfl (w.heap.size + 1 + 1) rfl X2 Tryz.underlying33 rfl (RC2.hi (by kernel_rfl)) ?_) | (refine wpList_load_blkg (by rfl) 43 _ rfl nbw0 rfl Yw0 Tryz.underlying43 rfl (R_w0.hi (by kernel_rfl)) ?_) | (refine wpList_load_blkg (by rfl) 41 _ rfl w25.heap.size rfl Z0 Tryz.underlying41 rfl (R_xc0.hi (by kernel_rfl)) ?_) | (refine wpList_load_blkg (by rfl) 36 _ rfl w27.heap.size rfl Z1 Tryz.underlying36 rfl (R_xc1.hi (by kernel_rfl)) ?_) | (refine wpList_load_blkg (by rfl) 36 _ rfl w29.heap.size rfl Z2 Tryz.underlying36 rfl (R_xc2.hi (by kernel_rfl)) ?_) | (refine wpList_load_blkg (by rfl) 43 _ rfl w31.heap.size rfl Yg0 Tryz.underlying43 rfl (R_g0.hi (by kernel_rfl)) ?_) | (refine wpList_load_blkg (by rfl) 43 _ rfl nbh0 rfl Yh0 Tryz.underlying43 rfl (R_h0.hi (by kernel_rfl)) ?_))
      refine (eqMixResult_rd _ _ r _ (by exact h0.rd) (by exact w0.rd)).mono ?_
      rintro e w61 ⟨rfl, hb61⟩
      replace X0 := X0.keep hb61
      replace X1 := X1.keep hb61
      replace X2 := X2.keep hb61
      replace Yw0 := Yw0.keep hb61
      replace Z0 := Z0.keep hb61
      replace Z1 := Z1.keep hb61
      replace Z2 := Z2.keep hb61
      replace Yg0 := Yg0.keep hb61
      replace Yh0 := Yh0.keep hb61
      replace w0 := w0.keep hb61
      replace xc0 := xc0.keep hb61
      replace xc1 := xc1.keep hb61
      replace xc2 := xc2.keep hb61
      replace g0 := g0.keep hb61
      replace h0 := h0.keep hb61
      replace B := B.trans (hb61.mono B.size)
      (try replace NB := NB.keep hb61)
      clear hb61
      go_wp2_with (first | (refine wpList_load_blkg (by rfl) 31 _ rfl w.heap.size rfl X0 Tryz.underlying31 rfl (RC0.hi (by kernel_rfl)) ?_) | (refine wpList_load_blkg (by rfl) 33 _ rfl (w.heap.size + 1) rfl X1 Tryz.underlying33 rfl (RC1.hi (by kernel_rfl)) ?_) | (refine wpList_load_blkg (by rfl) 33 _ rfl (w.heap.size + 1 + 1) rfl X2 Tryz.underlying33 rfl (RC2.hi (by kernel_rfl)) ?_) | (refine wpList_load_blkg (by rfl) 43 _ rfl nbw0 rfl Yw0 Tryz.underlying43 rfl (R_w0.hi (by kernel_rfl)) ?_) | (refine wpList_load_blkg (by rfl) 41 _ rfl w25.heap.size rfl Z0 Tryz.underlying41 rfl (R_xc0.hi (by kernel_rfl)) ?_) | (refine wpList_load_blkg (by rfl) 36 _ rfl w27.heap.size rfl Z1 Tryz.underlying36 rfl (R_xc1.hi (by kernel_rfl)) ?_) | (refine wpList_load_blkg (by rfl) 36 _ rfl w29.heap.size rfl Z2 Tryz.underlying36 rfl (R_xc2.hi (by kernel_rfl)) ?_) | (refine wpList_load_blkg (by rfl) 43 _ rfl w31.heap.size rfl Yg0 Tryz.underlying43 rfl (R_g0.hi (by kernel_rfl)) ?_) | (refine wpList_load_blkg (by rfl) 43 _ rfl nbh0 rfl Yh0 Tryz.underlying43 rfl (R_h0.hi (by kernel_rfl)) ?_))
      refine (heldMixResult_rd _ r _ _ (by exact g0.rd) (by omega) (by omega)).mono ?_
      rintro e w62 ⟨rfl, hb62⟩
      replace X0 := X0.keep hb62
      replace X1 := X1.keep hb62
      replace X2 := X2.keep hb62
      replace Yw0 := Yw0.keep hb62
      replace Z0 := Z0.keep hb62
      replace Z1 := Z1.keep hb62
      replace Z2 := Z2.keep hb62
      replace Yg0 := Yg0.keep hb62
      replace Yh0 := Yh0.keep hb62
      replace w0 := w0.keep hb62
      replace xc0 := xc0.keep hb62
      replace xc1 := xc1.keep hb62
      replace xc2 := xc2.keep hb62
      replace g0 := g0.keep hb62
      replace h0 := h0.keep hb62
      replace B := B.trans (hb62.mono B.size)
      (try replace NB := NB.keep hb62)
      clear hb62
      go_wp2
      go_ret
      exact ⟨rfl, B⟩
/-! the row's step -/
set_option maxRecDepth 100000 in
theorem lifted (os : Os) (started : os.Started) (H : Type) (enc : TypeId × Value → H) :
    ReturnsInHanded {} Tryz.checked os 4 .any (Rows.fnExactXorBitsSpec.pre6 enc Tryz.prog Tryz.f4 Rows.fnExactXorBitsRow.domain false) (Rows.fnExactXorBitsSpec.post enc Tryz.prog Tryz.f4 false true false false) := by
  refine returnsInHanded_of_change (C := Tryz.checked) own started (by kernel_rfl) Tryz.func4
    (ChangeSpec.witness6 (enc := enc) (C := Tryz.checked) false ⟨#[], #[.agg #[.slice none 0 0, .slice none 0 0, .int .i64 0, .slice none 0 0, .int .i64 0, .int .i64 0, .int .i64 0, .bool false, .bool false, .int .i64 0, .int .i64 0, .int .i64 0, .int .i64 0, .int .i64 0, .int .i64 0, .int .i64 0], .agg #[.int .i64 0, .slice none 0 0], .agg #[.int .i64 0, .slice none 0 0]], []⟩ 8 (by kernel_rfl) (by kernel_rfl) (by kernel_rfl) (by kernel_rfl)) ?_
  intro W base args ds gs before hval0 hW hcnd _
  have hval : ∀ (j : Nat) t v, Tryz.f4.params[j]? = some t → args[j]? = some v → Value.okWide Tryz.prog W .any base t v := hval0
  have hW' := hW
  obtain ⟨p, q, hA0, hV, rfl, hfz, hnd⟩ := hW
  have hA : DataW.TrodAll enc Tryz.prog W 0 (fun _ => true) true Tryz.f4.params.toList args.toList ds p := hA0
  rw [Tryz.params4] at hA hval
  obtain ⟨v0, vs0, d0, ds0, p0, q0, hargs, rfl, rfl, h0, r0⟩ := trodAll_cons hA
  obtain ⟨v1, vs1, d1, ds1, p1, q1, rfl, rfl, rfl, h1, r1⟩ := trodAll_cons r0
  obtain ⟨v2, vs2, d2, ds2, p2, q2, rfl, rfl, rfl, h2, r2⟩ := trodAll_cons r1
  obtain ⟨rfl, rfl, rfl⟩ := trodAll_nil r2
  obtain rfl : args = #[v0, v1, v2] := by cases args; simp_all
  obtain ⟨rfl, rfl⟩ := trodVars_none hV
  have k0 := h0
  have lt0 : ∀ x ∈ p0, x.block < W.heap.size := by obtain ⟨m, hm⟩ := k0; exact DataW.trod_lt m _ _ _ hm
  obtain ⟨cs0, rfl, _⟩ := okWide_struct Tryz.underlying31 (hval 0 31 v0 rfl rfl)
  obtain ⟨x0, w0⟩ : ∃ y, RdNet W (.agg cs0) y := by
    obtain ⟨fuel, hf⟩ := h0
    obtain ⟨y, q⟩ := open_Net hf
    exact ⟨y, by simpa [Value.cells] using q⟩
  have k1 := h1
  have lt1 : ∀ x ∈ p1, x.block < W.heap.size := by obtain ⟨m, hm⟩ := k1; exact DataW.trod_lt m _ _ _ hm
  obtain ⟨cs1, rfl, _⟩ := okWide_struct Tryz.underlying33 (hval 1 33 v1 rfl rfl)
  obtain ⟨x1, w1⟩ : ∃ y, RdMirror W (.agg cs1) y := by
    obtain ⟨fuel, hf⟩ := h1
    obtain ⟨y, q⟩ := open_Mirror hf
    exact ⟨y, by simpa [Value.cells] using q⟩
  have k2 := h2
  have lt2 : ∀ x ∈ p2, x.block < W.heap.size := by obtain ⟨m, hm⟩ := k2; exact DataW.trod_lt m _ _ _ hm
  obtain ⟨cs2, rfl, _⟩ := okWide_struct Tryz.underlying33 (hval 2 33 v2 rfl rfl)
  obtain ⟨x2, w2⟩ : ∃ y, RdMirror W (.agg cs2) y := by
    obtain ⟨fuel, hf⟩ := h2
    obtain ⟨y, q⟩ := open_Mirror hf
    exact ⟨y, by simpa [Value.cells] using q⟩
  clear hA0 hval0
  refine (walk _ x0 _ x1 _ x2 W w0 w1 w2).mono fun e W' ⟨he, bel⟩ => ?_
  subst he
  exact ⟨_, rfl, _, _, _, [], _, [], hW', trodAll_mk1 (shut_bool Tryz.underlying4 _), (trodAll_cons_mk (Below.trod laidOut (by kernel_rfl) (of_decide_eq_true (by kernel_rfl)) k0 bel lt0) (trodAll_cons_mk (Below.trod laidOut (by kernel_rfl) (of_decide_eq_true (by kernel_rfl)) k1 bel lt1) (trodAll_cons_mk (Below.trod laidOut (by kernel_rfl) (of_decide_eq_true (by kernel_rfl)) k2 bel lt2) trodAll_mk0))), rfl, bel.frame _, fun h => by cases h⟩

theorem over : Rows.fnExactXorBitsRow.holds Tryz.pinned (OpenSpec.ofChange Rows.fnExactXorBitsSpec) :=
  OpenClaim.holds_of_wide 4 Tryz.f4 rfl rfl rfl rfl rfl rfl rfl ⟨rfl, rfl, rfl, rfl, rfl⟩ rfl rfl rfl rfl rfl (by kernel_rfl) Tryz.func4 (by kernel_rfl)
    (of_decide_eq_true (by kernel_rfl)) (by unfold Func.isWrapper; first | (rw [if_pos (by decide +kernel)]; kernel_rfl) | (rw [if_neg (by decide +kernel)]; exact ⟨rfl, rfl⟩))
    (fun os started H enc _ => lifted os started H enc)

end Go.Proofs.YtepobckhfodngalGreat.fnExactXorBits
namespace Go.Proofs.YtepobckhfodngalGreat
theorem fnExactXorBits_holds : Rows.FnExactXorBitsSaid := fnExactXorBits.over
#print axioms fnExactXorBits_holds
end Go.Proofs.YtepobckhfodngalGreat
