/-
  FnExactInputMany answers true at every net, every owner and every list of whole numbers: the program's InputMany answers as its model does, writes into no argument, and each answer owns its memory.
-/
import Derived.Test.YtbmemdgeohnpnalGreatOpen
import Derived.Test.YtbmemdgeohnpnalGreatGv5
import Derived.Test.YtbmemdgeohnpnalGreatWhole
import Derived.Test.YtbmemdgeohnpnalGreatRow2
import Derived.Test.YtbmemdgeohnpnalGreatOpen
import Derived.Deep.RegionHeld3
import Derived.Deep.CutRange
import Derived.Deep.Cut
import Derived.Deep.RegionWith
import Derived.ShutString
import Derived.ChangeOld
import Derived.Below
namespace Go.Proofs.YtbmemdgeohnpnalGreat.fnExactInputMany
open Go.ChangeShapes Go.WideShapes Go.ChangeAt Go.RowKit
open Go.ChangeMaps (open_string shut_string)
set_option linter.unusedVariables false

theorem own : ownKnob Tryz.prog.godebug = none := by kernel_rfl
theorem laidOut : laidOutB Tryz.prog = true := by kernel_rfl

set_option maxHeartbeats 4000000 in
set_option maxRecDepth 100000 in
theorem walk (v0 : Value) (x0 : MNet) (a1 : Int) (v2 : Value) (x2 : List Int) (w : World) (r0 : RdNet w (v0) x0) (r2 : Reads w .i64 (v2) x2) (w1 : (Lit.int .i64 a1).wf = true) :
    Calls Tryz.prog 5 #[v0, .int .i64 a1, v2] w fun e w' => e = .returned (.bool true) ∧ Below w.heap.size w w' := by
  obtain ⟨cs, hv, RC⟩ := r0.row
  subst hv
  obtain ⟨p2_0, c2_0, hv2⟩ : ∃ p c, v2 = .slice p x2.length c := Reads.shp r2
  subst hv2
  by_cases l2 : (1048576 : Int) < (x2.length : Int)
  · have g2 : decide ((1048576 : Int) < (x2.length : Int)) = true := by simpa using l2
    go_enter Tryz.func5, Tryz.ntmps5
    have X := Blk.new w 31 cs
    go_wp2
    go_ret
    exact ⟨rfl, (Below.refl _ _).alloc (Nat.le_refl _) _⟩
  have g2 : decide ((1048576 : Int) < (x2.length : Int)) = false := by simpa using l2
  have m2 : x2.length ≤ 1048576 := by omega
  by_cases s0 : (1048576 : Int) < (totNet x0 : Nat)
  · skip
    go_enter Tryz.func5, Tryz.ntmps5
    have X := Blk.new w 31 cs
    go_wp2_with (refine wpList_load_blkg (by rfl) 31 _ rfl w.heap.size rfl X Tryz.underlying31 rfl (RC.hi (by kernel_rfl)) ?_)
    refine Calls.at (F := fun V => Blk V w.heap.size 31 cs ∧ Below w.heap.size w V) ⟨X, (Below.refl _ _).alloc (Nat.le_refl _) _⟩ ?_
    clear X
    rintro V0 ⟨X, B⟩
    refine (szNet_over _ x0 _ _ (by exact r0.below B) (by omega) (by omega) (by omega)).mono ?_
    rintro e w1 ⟨rfl, hb1⟩
    replace B := B.trans (hb1.mono B.size)
    go_wp2
    go_ret
    exact ⟨rfl, B⟩
  have hc0 := cntNet_le x0
  have KS : ∀ (V : World) (u0 : Value) (u2 : Value), RdNet V (u0) x0 → Reads V .i64 (u2) x2 → Calls Tryz.prog 21 #[u0, .int .i64 a1, u2] V fun e V' => ∃ u b0 b1 b2 b3, e = .returned u ∧ OwManyResult V' (u) (manyR x0 a1 x2) b0 b1 b2 b3 ∧ (∀ y ∈ b0, V.heap.size ≤ y) ∧ (∀ y ∈ b1, V.heap.size ≤ y) ∧ (∀ y ∈ b2, V.heap.size ≤ y) ∧ (∀ y ∈ b3, V.heap.size ≤ y) ∧ Below V.heap.size V V' := fun V u0 u2 h0 h2 => spec_InputMany _ _ _ _ _ _ h0 (Fit.of_tot (by omega)) h2
  have KI : ∀ (V : World) (u0 : Value) (u2 : Value), RdNet V (u0) x0 → Reads V .i64 (u2) x2 → Calls Tryz.prog 23 #[u0, .int .i64 a1, u2] V fun e V' => ∃ u b0 b1 b2 b3, e = .returned u ∧ OwManyResult V' (u) (manyR x0 a1 x2) b0 b1 b2 b3 ∧ (∀ y ∈ b0, V.heap.size ≤ y) ∧ (∀ y ∈ b1, V.heap.size ≤ y) ∧ (∀ y ∈ b2, V.heap.size ≤ y) ∧ (∀ y ∈ b3, V.heap.size ≤ y) ∧ Below V.heap.size V V' := fun V u0 u2 h0 h2 => impl_InputMany _ _ _ _ _ _ h0 (Fit.of_tot (by omega)) h2
  obtain ⟨r, HS, HI, hcr⟩ : ∃ r : MManyResult, Hid (∀ (V : World) (u0 : Value) (u2 : Value), RdNet V (u0) x0 → Reads V .i64 (u2) x2 → Calls Tryz.prog 21 #[u0, .int .i64 a1, u2] V fun e V' => ∃ u b0 b1 b2 b3, e = .returned u ∧ OwManyResult V' (u) r b0 b1 b2 b3 ∧ (∀ y ∈ b0, V.heap.size ≤ y) ∧ (∀ y ∈ b1, V.heap.size ≤ y) ∧ (∀ y ∈ b2, V.heap.size ≤ y) ∧ (∀ y ∈ b3, V.heap.size ≤ y) ∧ Below V.heap.size V V') ∧ Hid (∀ (V : World) (u0 : Value) (u2 : Value), RdNet V (u0) x0 → Reads V .i64 (u2) x2 → Calls Tryz.prog 23 #[u0, .int .i64 a1, u2] V fun e V' => ∃ u b0 b1 b2 b3, e = .returned u ∧ OwManyResult V' (u) r b0 b1 b2 b3 ∧ (∀ y ∈ b0, V.heap.size ≤ y) ∧ (∀ y ∈ b1, V.heap.size ≤ y) ∧ (∀ y ∈ b2, V.heap.size ≤ y) ∧ (∀ y ∈ b3, V.heap.size ≤ y) ∧ Below V.heap.size V V') ∧ cntManyResult r ≤ 268435456 := ⟨manyR x0 a1 x2, KS, KI, manyR_cnt x0 a1 x2 (by omega)⟩
  clear KS KI
  go_enter Tryz.func5, Tryz.ntmps5
  have X := Blk.new w 31 cs
  go_wp2_with (refine wpList_load_blkg (by rfl) 31 _ rfl w.heap.size rfl X Tryz.underlying31 rfl (RC.hi (by kernel_rfl)) ?_)
  refine Calls.at (F := fun V => Blk V w.heap.size 31 cs ∧ Below w.heap.size w V) ⟨X, (Below.refl _ _).alloc (Nat.le_refl _) _⟩ ?_
  clear X
  rintro V0 ⟨X, B⟩
  refine (szNet_fit _ x0 _ _ (by exact r0.below B) (by omega) (by omega) (by omega)).mono ?_
  rintro e w1 ⟨rfl, hb1⟩
  replace X := X.keep hb1
  replace B := B.trans (hb1.mono B.size)
  clear hb1
  go_wp2_with (first | (refine wpList_load_blkg (by rfl) 31 _ rfl w.heap.size rfl X Tryz.underlying31 rfl (RC.hi (by kernel_rfl)) ?_))
  refine (toNet_ow _ x0 _ (by exact r0.below B) (by omega)).mono ?_
  rintro e w2 ⟨u, bw0a_0, bw0a_1, bw0a_2, rfl, w0a, fw0a_0, fw0a_1, fw0a_2, hb2⟩
  obtain ⟨cs_w0a, e_w0a, R_w0a⟩ := w0a.row
  subst e_w0a
  have F_w0a : ∀ y ∈ (bw0a_0 ++ (bw0a_1 ++ bw0a_2)), w1.heap.size ≤ y := all_app fw0a_0 (all_app fw0a_1 fw0a_2)
  have nb_X_w0a : w.heap.size ∉ (bw0a_0 ++ (bw0a_1 ++ bw0a_2)) := fun hm => Nat.not_lt.2 (F_w0a _ hm) X.lt
  have G_w0a : ∀ y ∈ (bw0a_0 ++ (bw0a_1 ++ bw0a_2)), w.heap.size ≤ y := fun y hy => Nat.le_trans B.size (F_w0a y hy)
  clear F_w0a
  replace X := X.keep hb2
  replace B := B.trans (hb2.mono B.size)
  clear hb2 fw0a_0 fw0a_1 fw0a_2
  go_wp2_with (first | (refine wpList_load_blkg (by rfl) 31 _ rfl w.heap.size rfl X Tryz.underlying31 rfl (RC.hi (by kernel_rfl)) ?_))
  refine (toInt64S_ow _ x2 _ (by exact r2.below B) (by omega)).mono ?_
  rintro e w3 ⟨u, bw0s2_0, rfl, w0s2, fw0s2_0, hb3⟩
  obtain ⟨pw0s2_0, cw0s2_0, rfl⟩ := Ints.value w0s2
  have F_w0s2 : ∀ y ∈ bw0s2_0, w2.heap.size ≤ y := fw0s2_0
  have dj_w0a_w0s2 : Dj (bw0a_0 ++ (bw0a_1 ++ bw0a_2)) bw0s2_0 := fun y hy hm => Nat.not_lt.2 (F_w0s2 y hm) (w0a.lt y hy)
  have nb_X_w0s2 : w.heap.size ∉ bw0s2_0 := fun hm => Nat.not_lt.2 (F_w0s2 _ hm) X.lt
  have G_w0s2 : ∀ y ∈ bw0s2_0, w.heap.size ≤ y := fun y hy => Nat.le_trans B.size (F_w0s2 y hy)
  clear F_w0s2
  replace X := X.keep hb3
  replace w0a := w0a.keep hb3
  replace B := B.trans (hb3.mono B.size)
  clear hb3 fw0s2_0
  go_wp2_with (first | (refine wpList_load_blkg (by rfl) 31 _ rfl w.heap.size rfl X Tryz.underlying31 rfl (RC.hi (by kernel_rfl)) ?_))
  refine (HS.out _ _ _ (by exact w0a.rd) (by exact Ints.reads w0s2)).mono ?_
  rintro e w4 ⟨u, bw0_0, bw0_1, bw0_2, bw0_3, rfl, w0, fw0_0, fw0_1, fw0_2, fw0_3, hb4⟩
  obtain ⟨cs_w0, e_w0, R_w0⟩ := w0.row
  subst e_w0
  have F_w0 : ∀ y ∈ (bw0_0 ++ (bw0_1 ++ (bw0_2 ++ bw0_3))), w3.heap.size ≤ y := all_app fw0_0 (all_app fw0_1 (all_app fw0_2 fw0_3))
  have dj_w0a_w0 : Dj (bw0a_0 ++ (bw0a_1 ++ bw0a_2)) (bw0_0 ++ (bw0_1 ++ (bw0_2 ++ bw0_3))) := fun y hy hm => Nat.not_lt.2 (F_w0 y hm) (w0a.lt y hy)
  have dj_w0s2_w0 : Dj bw0s2_0 (bw0_0 ++ (bw0_1 ++ (bw0_2 ++ bw0_3))) := fun y hy hm => Nat.not_lt.2 (F_w0 y hm) (w0s2.lt y hy)
  have nb_X_w0 : w.heap.size ∉ (bw0_0 ++ (bw0_1 ++ (bw0_2 ++ bw0_3))) := fun hm => Nat.not_lt.2 (F_w0 _ hm) X.lt
  have G_w0 : ∀ y ∈ (bw0_0 ++ (bw0_1 ++ (bw0_2 ++ bw0_3))), w.heap.size ≤ y := fun y hy => Nat.le_trans B.size (F_w0 y hy)
  clear F_w0
  replace X := X.keep hb4
  replace w0a := w0a.keep hb4
  replace w0s2 := w0s2.keep hb4
  replace B := B.trans (hb4.mono B.size)
  clear hb4 fw0_0 fw0_1 fw0_2 fw0_3
  clear w0a G_w0a
  clear w0s2 G_w0s2
  go_wp2_with (first | (refine wpList_store_blk rfl 56 _ _ rfl w4.heap.size cs_w0 rfl rfl (Blk.new _ _ _) (by rw [R_w0.1]; rfl) (R_w0.hi (by kernel_rfl)) R_w0.2 ?_; intro w5 Yw0 o5; have nb_Yw0_w0 : w4.heap.size ∉ (bw0_0 ++ (bw0_1 ++ (bw0_2 ++ bw0_3))) := (fun hm => Nat.lt_irrefl _ (w0.lt _ hm)); replace X := (X.alloc _).off o5 (nbnew X.lt); replace w0 := (w0.alloc _).off o5 (djnew w0.lt); replace B := below_past B o5; clear o5) | (refine wpList_load_blkg (by rfl) 31 _ rfl w.heap.size rfl X Tryz.underlying31 rfl (RC.hi (by kernel_rfl)) ?_) | (refine wpList_load_blkg (by rfl) 56 _ rfl w4.heap.size rfl Yw0 Tryz.underlying56 rfl (R_w0.hi (by kernel_rfl)) ?_))
  refine (toNet_ow _ x0 _ (by exact r0.below B) (by omega)).mono ?_
  rintro e w6 ⟨u, bxc_0, bxc_1, bxc_2, rfl, xc, fxc_0, fxc_1, fxc_2, hb6⟩
  obtain ⟨cs_xc, e_xc, R_xc⟩ := xc.row
  subst e_xc
  have F_xc : ∀ y ∈ (bxc_0 ++ (bxc_1 ++ bxc_2)), w5.heap.size ≤ y := all_app fxc_0 (all_app fxc_1 fxc_2)
  have dj_w0_xc : Dj (bw0_0 ++ (bw0_1 ++ (bw0_2 ++ bw0_3))) (bxc_0 ++ (bxc_1 ++ bxc_2)) := fun y hy hm => Nat.not_lt.2 (F_xc y hm) (w0.lt y hy)
  have nb_X_xc : w.heap.size ∉ (bxc_0 ++ (bxc_1 ++ bxc_2)) := fun hm => Nat.not_lt.2 (F_xc _ hm) X.lt
  have nb_Yw0_xc : w4.heap.size ∉ (bxc_0 ++ (bxc_1 ++ bxc_2)) := fun hm => Nat.not_lt.2 (F_xc _ hm) Yw0.lt
  have G_xc : ∀ y ∈ (bxc_0 ++ (bxc_1 ++ bxc_2)), w.heap.size ≤ y := fun y hy => Nat.le_trans B.size (F_xc y hy)
  clear F_xc
  replace X := X.keep hb6
  replace Yw0 := Yw0.keep hb6
  replace w0 := w0.keep hb6
  replace B := B.trans (hb6.mono B.size)
  clear hb6 fxc_0 fxc_1 fxc_2
  go_wp2_with (first | (refine wpList_store_blk rfl 41 _ _ rfl w6.heap.size cs_xc rfl rfl (Blk.new _ _ _) (by rw [R_xc.1]; rfl) (R_xc.hi (by kernel_rfl)) R_xc.2 ?_; intro w7 Z o7; have nb_Z_w0 : w6.heap.size ∉ (bw0_0 ++ (bw0_1 ++ (bw0_2 ++ bw0_3))) := (fun hm => Nat.lt_irrefl _ (w0.lt _ hm)); have nb_Z_xc : w6.heap.size ∉ (bxc_0 ++ (bxc_1 ++ bxc_2)) := (fun hm => Nat.lt_irrefl _ (xc.lt _ hm)); replace X := (X.alloc _).off o7 (nbnew X.lt); replace Yw0 := (Yw0.alloc _).off o7 (nbnew Yw0.lt); replace w0 := (w0.alloc _).off o7 (djnew w0.lt); replace xc := (xc.alloc _).off o7 (djnew xc.lt); replace B := below_past B o7; clear o7) | (refine wpList_load_blkg (by rfl) 31 _ rfl w.heap.size rfl X Tryz.underlying31 rfl (RC.hi (by kernel_rfl)) ?_) | (refine wpList_load_blkg (by rfl) 56 _ rfl w4.heap.size rfl Yw0 Tryz.underlying56 rfl (R_w0.hi (by kernel_rfl)) ?_) | (refine wpList_load_blkg (by rfl) 41 _ rfl w6.heap.size rfl Z Tryz.underlying41 rfl (R_xc.hi (by kernel_rfl)) ?_))
  refine (toInt64S_ow _ x2 _ (by exact r2.below B) (by omega)).mono ?_
  rintro e w8 ⟨u, bxs2_0, rfl, xs2, fxs2_0, hb8⟩
  obtain ⟨pxs2_0, cxs2_0, rfl⟩ := Ints.value xs2
  have F_xs2 : ∀ y ∈ bxs2_0, w7.heap.size ≤ y := fxs2_0
  have dj_w0_xs2 : Dj (bw0_0 ++ (bw0_1 ++ (bw0_2 ++ bw0_3))) bxs2_0 := fun y hy hm => Nat.not_lt.2 (F_xs2 y hm) (w0.lt y hy)
  have dj_xc_xs2 : Dj (bxc_0 ++ (bxc_1 ++ bxc_2)) bxs2_0 := fun y hy hm => Nat.not_lt.2 (F_xs2 y hm) (xc.lt y hy)
  have nb_X_xs2 : w.heap.size ∉ bxs2_0 := fun hm => Nat.not_lt.2 (F_xs2 _ hm) X.lt
  have nb_Yw0_xs2 : w4.heap.size ∉ bxs2_0 := fun hm => Nat.not_lt.2 (F_xs2 _ hm) Yw0.lt
  have nb_Z_xs2 : w6.heap.size ∉ bxs2_0 := fun hm => Nat.not_lt.2 (F_xs2 _ hm) Z.lt
  have G_xs2 : ∀ y ∈ bxs2_0, w.heap.size ≤ y := fun y hy => Nat.le_trans B.size (F_xs2 y hy)
  clear F_xs2
  replace X := X.keep hb8
  replace Yw0 := Yw0.keep hb8
  replace Z := Z.keep hb8
  replace w0 := w0.keep hb8
  replace xc := xc.keep hb8
  replace B := B.trans (hb8.mono B.size)
  clear hb8 fxs2_0
  go_wp2_with (first | (refine wpList_load_blkg (by rfl) 31 _ rfl w.heap.size rfl X Tryz.underlying31 rfl (RC.hi (by kernel_rfl)) ?_) | (refine wpList_load_blkg (by rfl) 56 _ rfl w4.heap.size rfl Yw0 Tryz.underlying56 rfl (R_w0.hi (by kernel_rfl)) ?_) | (refine wpList_load_blkg (by rfl) 41 _ rfl w6.heap.size rfl Z Tryz.underlying41 rfl (R_xc.hi (by kernel_rfl)) ?_))
  refine (HI.out _ _ _ (by exact xc.rd) (by exact Ints.reads xs2)).mono ?_
  rintro e w9 ⟨u, bg0_0, bg0_1, bg0_2, bg0_3, rfl, g0, fg0_0, fg0_1, fg0_2, fg0_3, hb9⟩
  obtain ⟨cs_g0, e_g0, R_g0⟩ := g0.row
  subst e_g0
  have F_g0 : ∀ y ∈ (bg0_0 ++ (bg0_1 ++ (bg0_2 ++ bg0_3))), w8.heap.size ≤ y := all_app fg0_0 (all_app fg0_1 (all_app fg0_2 fg0_3))
  have dj_w0_g0 : Dj (bw0_0 ++ (bw0_1 ++ (bw0_2 ++ bw0_3))) (bg0_0 ++ (bg0_1 ++ (bg0_2 ++ bg0_3))) := fun y hy hm => Nat.not_lt.2 (F_g0 y hm) (w0.lt y hy)
  have dj_xc_g0 : Dj (bxc_0 ++ (bxc_1 ++ bxc_2)) (bg0_0 ++ (bg0_1 ++ (bg0_2 ++ bg0_3))) := fun y hy hm => Nat.not_lt.2 (F_g0 y hm) (xc.lt y hy)
  have dj_xs2_g0 : Dj bxs2_0 (bg0_0 ++ (bg0_1 ++ (bg0_2 ++ bg0_3))) := fun y hy hm => Nat.not_lt.2 (F_g0 y hm) (xs2.lt y hy)
  have nb_X_g0 : w.heap.size ∉ (bg0_0 ++ (bg0_1 ++ (bg0_2 ++ bg0_3))) := fun hm => Nat.not_lt.2 (F_g0 _ hm) X.lt
  have nb_Yw0_g0 : w4.heap.size ∉ (bg0_0 ++ (bg0_1 ++ (bg0_2 ++ bg0_3))) := fun hm => Nat.not_lt.2 (F_g0 _ hm) Yw0.lt
  have nb_Z_g0 : w6.heap.size ∉ (bg0_0 ++ (bg0_1 ++ (bg0_2 ++ bg0_3))) := fun hm => Nat.not_lt.2 (F_g0 _ hm) Z.lt
  have G_g0 : ∀ y ∈ (bg0_0 ++ (bg0_1 ++ (bg0_2 ++ bg0_3))), w.heap.size ≤ y := fun y hy => Nat.le_trans B.size (F_g0 y hy)
  clear F_g0
  replace X := X.keep hb9
  replace Yw0 := Yw0.keep hb9
  replace Z := Z.keep hb9
  replace w0 := w0.keep hb9
  replace xc := xc.keep hb9
  replace xs2 := xs2.keep hb9
  replace B := B.trans (hb9.mono B.size)
  clear hb9 fg0_0 fg0_1 fg0_2 fg0_3
  go_wp2_with (first | (refine wpList_store_blk rfl 56 _ _ rfl w9.heap.size cs_g0 rfl rfl (Blk.new _ _ _) (by rw [R_g0.1]; rfl) (R_g0.hi (by kernel_rfl)) R_g0.2 ?_; intro w10 Yg0 o10; have nb_Yg0_w0 : w9.heap.size ∉ (bw0_0 ++ (bw0_1 ++ (bw0_2 ++ bw0_3))) := (fun hm => Nat.lt_irrefl _ (w0.lt _ hm)); have nb_Yg0_xc : w9.heap.size ∉ (bxc_0 ++ (bxc_1 ++ bxc_2)) := (fun hm => Nat.lt_irrefl _ (xc.lt _ hm)); have nb_Yg0_xs2 : w9.heap.size ∉ bxs2_0 := (fun hm => Nat.lt_irrefl _ (xs2.lt _ hm)); have nb_Yg0_g0 : w9.heap.size ∉ (bg0_0 ++ (bg0_1 ++ (bg0_2 ++ bg0_3))) := (fun hm => Nat.lt_irrefl _ (g0.lt _ hm)); replace X := (X.alloc _).off o10 (nbnew X.lt); replace Yw0 := (Yw0.alloc _).off o10 (nbnew Yw0.lt); replace Z := (Z.alloc _).off o10 (nbnew Z.lt); replace w0 := (w0.alloc _).off o10 (djnew w0.lt); replace xc := (xc.alloc _).off o10 (djnew xc.lt); replace xs2 := (xs2.alloc _).off o10 (djnew xs2.lt); replace g0 := (g0.alloc _).off o10 (djnew g0.lt); replace B := below_past B o10; clear o10) | (refine wpList_load_blkg (by rfl) 31 _ rfl w.heap.size rfl X Tryz.underlying31 rfl (RC.hi (by kernel_rfl)) ?_) | (refine wpList_load_blkg (by rfl) 56 _ rfl w4.heap.size rfl Yw0 Tryz.underlying56 rfl (R_w0.hi (by kernel_rfl)) ?_) | (refine wpList_load_blkg (by rfl) 41 _ rfl w6.heap.size rfl Z Tryz.underlying41 rfl (R_xc.hi (by kernel_rfl)) ?_) | (refine wpList_load_blkg (by rfl) 56 _ rfl w9.heap.size rfl Yg0 Tryz.underlying56 rfl (R_g0.hi (by kernel_rfl)) ?_))
  refine (eqManyResult_rd _ _ r _ (by exact g0.rd) (by exact w0.rd)).mono ?_
  rintro e w11 ⟨rfl, hb11⟩
  replace X := X.keep hb11
  replace Yw0 := Yw0.keep hb11
  replace Z := Z.keep hb11
  replace Yg0 := Yg0.keep hb11
  replace w0 := w0.keep hb11
  replace xc := xc.keep hb11
  replace xs2 := xs2.keep hb11
  replace g0 := g0.keep hb11
  replace B := B.trans (hb11.mono B.size)
  clear hb11
  go_wp2_with fail
  refine wp_region_held (S := fun V => Blk V w6.heap.size 41 cs_xc ∧ Blk V w.heap.size 31 cs) (by kernel_rfl) ?_
  try (change wpAnyH _ _ _ _ _ _ _ _ (World.drew _))
  have hS : (fun V => Blk V w6.heap.size 41 cs_xc ∧ Blk V w.heap.size 31 cs) _ := ⟨Z.drew, X.drew⟩
  replace X := X.drew
  replace Yw0 := Yw0.drew
  replace Z := Z.drew
  replace Yg0 := Yg0.drew
  replace w0 := w0.drew
  replace xc := xc.drew
  replace xs2 := xs2.drew
  replace g0 := g0.drew
  replace B := B.drew
  refine wpAnyH_take (i := 0) (v := _) rfl (by kernel_rfl) (by kernel_rfl) (by kernel_rfl) (fun _ _ _ h => h) (yieldsIf_load_mid (by rfl) _ _ rfl _ _ rfl _ _ (fun _ h => h.1.range) Tryz.underlying41 rfl (by simpa using R_xc.hi (by kernel_rfl))) hS ?_
  (try simp only [List.getElem_toArray]); (try simp only [List.getElem_cons_succ]); (try simp only [List.getElem_cons_zero]); (try simp only [Act.put]); (try simp only [List.setIfInBounds_toArray]); (try simp only [List.set_cons_succ]); (try simp only [List.set_cons_zero])
  refine wpAnyH_take (i := 1) (v := _) rfl (by kernel_rfl) (by kernel_rfl) (by kernel_rfl) (fun _ _ _ h => h) (yieldsIf_load_mid (by rfl) _ _ rfl _ _ rfl _ _ (fun _ h => h.2.range) Tryz.underlying31 rfl (by simpa using RC.hi (by kernel_rfl))) hS ?_
  (try simp only [List.getElem_toArray]); (try simp only [List.getElem_cons_succ]); (try simp only [List.getElem_cons_zero]); (try simp only [Act.put]); (try simp only [List.setIfInBounds_toArray]); (try simp only [List.set_cons_succ]); (try simp only [List.set_cons_zero])
  refine wpAnyH_ready (rs := [2]) (by kernel_rfl) (by simp) ?_
  refine AllReadyH.cons (o := _) rfl (fun K hK => ?_) AllReadyH.nil
  rw [if_pos (by rfl)]
  go_simp
  go_at_call 9
  refine (toNet_ow _ x0 _ (by exact r0.below B) (by omega)).mono ?_
  rintro e w12 ⟨u, by_0, by_1, by_2, rfl, y, fy_0, fy_1, fy_2, hb12⟩
  obtain ⟨cs_y, e_y, R_y⟩ := y.row
  subst e_y
  have F_y : ∀ y ∈ (by_0 ++ (by_1 ++ by_2)), w11.drew.heap.size ≤ y := all_app fy_0 (all_app fy_1 fy_2)
  have dj_w0_y : Dj (bw0_0 ++ (bw0_1 ++ (bw0_2 ++ bw0_3))) (by_0 ++ (by_1 ++ by_2)) := fun y hy hm => Nat.not_lt.2 (F_y y hm) (w0.lt y hy)
  have dj_xc_y : Dj (bxc_0 ++ (bxc_1 ++ bxc_2)) (by_0 ++ (by_1 ++ by_2)) := fun y hy hm => Nat.not_lt.2 (F_y y hm) (xc.lt y hy)
  have dj_xs2_y : Dj bxs2_0 (by_0 ++ (by_1 ++ by_2)) := fun y hy hm => Nat.not_lt.2 (F_y y hm) (xs2.lt y hy)
  have dj_g0_y : Dj (bg0_0 ++ (bg0_1 ++ (bg0_2 ++ bg0_3))) (by_0 ++ (by_1 ++ by_2)) := fun y hy hm => Nat.not_lt.2 (F_y y hm) (g0.lt y hy)
  have nb_X_y : w.heap.size ∉ (by_0 ++ (by_1 ++ by_2)) := fun hm => Nat.not_lt.2 (F_y _ hm) X.lt
  have nb_Yw0_y : w4.heap.size ∉ (by_0 ++ (by_1 ++ by_2)) := fun hm => Nat.not_lt.2 (F_y _ hm) Yw0.lt
  have nb_Z_y : w6.heap.size ∉ (by_0 ++ (by_1 ++ by_2)) := fun hm => Nat.not_lt.2 (F_y _ hm) Z.lt
  have nb_Yg0_y : w9.heap.size ∉ (by_0 ++ (by_1 ++ by_2)) := fun hm => Nat.not_lt.2 (F_y _ hm) Yg0.lt
  have G_y : ∀ y ∈ (by_0 ++ (by_1 ++ by_2)), w.heap.size ≤ y := fun y hy => Nat.le_trans B.size (F_y y hy)
  clear F_y
  replace X := X.keep hb12
  replace Yw0 := Yw0.keep hb12
  replace Z := Z.keep hb12
  replace Yg0 := Yg0.keep hb12
  replace w0 := w0.keep hb12
  replace xc := xc.keep hb12
  replace xs2 := xs2.keep hb12
  replace g0 := g0.keep hb12
  replace B := B.trans (hb12.mono B.size)
  clear hb12 fy_0 fy_1 fy_2
  dsimp only
  refine hK.out _ _ ⟨Z, X⟩ (fun hS => ?_)
  clear hK K
  (try simp only [List.getElem_toArray]); (try simp only [List.getElem_cons_succ]); (try simp only [List.getElem_cons_zero]); (try simp only [Act.put]); (try simp only [List.setIfInBounds_toArray]); (try simp only [List.set_cons_succ]); (try simp only [List.set_cons_zero])
  refine wpAnyH_ready (rs := [3]) (by kernel_rfl) (by simp) ?_
  refine AllReadyH.cons (o := _) rfl (fun K hK => ?_) AllReadyH.nil
  rw [if_pos (by rfl)]
  go_simp
  go_at_call 13
  refine (eqNet_rd _ _ x0 _ (by exact xc.rd) (by exact y.rd)).mono ?_
  rintro e w13 ⟨rfl, hb13⟩
  replace X := X.keep hb13
  replace Yw0 := Yw0.keep hb13
  replace Z := Z.keep hb13
  replace Yg0 := Yg0.keep hb13
  replace w0 := w0.keep hb13
  replace xc := xc.keep hb13
  replace xs2 := xs2.keep hb13
  replace g0 := g0.keep hb13
  replace y := y.keep hb13
  replace B := B.trans (hb13.mono B.size)
  clear hb13
  dsimp only
  refine hK.out _ _ ⟨Z, X⟩ (fun hS => ?_)
  clear hK K
  (try simp only [List.getElem_toArray]); (try simp only [List.getElem_cons_succ]); (try simp only [List.getElem_cons_zero]); (try simp only [Act.put]); (try simp only [List.setIfInBounds_toArray]); (try simp only [List.set_cons_succ]); (try simp only [List.set_cons_zero])
  refine wpAnyH_take (i := 4) (v := .bool false) rfl (by kernel_rfl) (by kernel_rfl) (by kernel_rfl) (fun _ _ _ h => h) (Or.inl ⟨by rfl, ?_⟩) hS ?_
  · intro w' hSw
    go_simp
  (try simp only [List.getElem_toArray]); (try simp only [List.getElem_cons_succ]); (try simp only [List.getElem_cons_zero]); (try simp only [Act.put]); (try simp only [List.setIfInBounds_toArray]); (try simp only [List.set_cons_succ]); (try simp only [List.set_cons_zero])
  refine wpAnyH_done (by kernel_rfl) ?_ _
  clear y G_y
  clear hS
  go_wp2_with (first | (refine wpList_load_blkg (by rfl) 31 _ rfl w.heap.size rfl X Tryz.underlying31 rfl (RC.hi (by kernel_rfl)) ?_) | (refine wpList_load_blkg (by rfl) 56 _ rfl w4.heap.size rfl Yw0 Tryz.underlying56 rfl (R_w0.hi (by kernel_rfl)) ?_) | (refine wpList_load_blkg (by rfl) 41 _ rfl w6.heap.size rfl Z Tryz.underlying41 rfl (R_xc.hi (by kernel_rfl)) ?_) | (refine wpList_load_blkg (by rfl) 56 _ rfl w9.heap.size rfl Yg0 Tryz.underlying56 rfl (R_g0.hi (by kernel_rfl)) ?_))
  refine (toInt64S_ow _ x2 _ (by exact r2.below B) (by omega)).mono ?_
  rintro e w14 ⟨u, bys_0, rfl, ys, fys_0, hb14⟩
  obtain ⟨pys_0, cys_0, rfl⟩ := Ints.value ys
  have F_ys : ∀ y ∈ bys_0, w13.heap.size ≤ y := fys_0
  have dj_w0_ys : Dj (bw0_0 ++ (bw0_1 ++ (bw0_2 ++ bw0_3))) bys_0 := fun y hy hm => Nat.not_lt.2 (F_ys y hm) (w0.lt y hy)
  have dj_xc_ys : Dj (bxc_0 ++ (bxc_1 ++ bxc_2)) bys_0 := fun y hy hm => Nat.not_lt.2 (F_ys y hm) (xc.lt y hy)
  have dj_xs2_ys : Dj bxs2_0 bys_0 := fun y hy hm => Nat.not_lt.2 (F_ys y hm) (xs2.lt y hy)
  have dj_g0_ys : Dj (bg0_0 ++ (bg0_1 ++ (bg0_2 ++ bg0_3))) bys_0 := fun y hy hm => Nat.not_lt.2 (F_ys y hm) (g0.lt y hy)
  have nb_X_ys : w.heap.size ∉ bys_0 := fun hm => Nat.not_lt.2 (F_ys _ hm) X.lt
  have nb_Yw0_ys : w4.heap.size ∉ bys_0 := fun hm => Nat.not_lt.2 (F_ys _ hm) Yw0.lt
  have nb_Z_ys : w6.heap.size ∉ bys_0 := fun hm => Nat.not_lt.2 (F_ys _ hm) Z.lt
  have nb_Yg0_ys : w9.heap.size ∉ bys_0 := fun hm => Nat.not_lt.2 (F_ys _ hm) Yg0.lt
  have G_ys : ∀ y ∈ bys_0, w.heap.size ≤ y := fun y hy => Nat.le_trans B.size (F_ys y hy)
  clear F_ys
  replace X := X.keep hb14
  replace Yw0 := Yw0.keep hb14
  replace Z := Z.keep hb14
  replace Yg0 := Yg0.keep hb14
  replace w0 := w0.keep hb14
  replace xc := xc.keep hb14
  replace xs2 := xs2.keep hb14
  replace g0 := g0.keep hb14
  replace B := B.trans (hb14.mono B.size)
  clear hb14 fys_0
  go_wp2_with (first | (refine wpList_load_blkg (by rfl) 31 _ rfl w.heap.size rfl X Tryz.underlying31 rfl (RC.hi (by kernel_rfl)) ?_) | (refine wpList_load_blkg (by rfl) 56 _ rfl w4.heap.size rfl Yw0 Tryz.underlying56 rfl (R_w0.hi (by kernel_rfl)) ?_) | (refine wpList_load_blkg (by rfl) 41 _ rfl w6.heap.size rfl Z Tryz.underlying41 rfl (R_xc.hi (by kernel_rfl)) ?_) | (refine wpList_load_blkg (by rfl) 56 _ rfl w9.heap.size rfl Yg0 Tryz.underlying56 rfl (R_g0.hi (by kernel_rfl)) ?_))
  refine (eqInt64S_rd _ _ x2 _ (by exact Ints.reads xs2) (by exact Ints.reads ys)).mono ?_
  rintro e w15 ⟨rfl, hb15⟩
  replace X := X.keep hb15
  replace Yw0 := Yw0.keep hb15
  replace Z := Z.keep hb15
  replace Yg0 := Yg0.keep hb15
  replace w0 := w0.keep hb15
  replace xc := xc.keep hb15
  replace xs2 := xs2.keep hb15
  replace g0 := g0.keep hb15
  replace ys := ys.keep hb15
  replace B := B.trans (hb15.mono B.size)
  clear hb15
  clear ys G_ys
  go_wp2_with (first | (refine wpList_load_blkg (by rfl) 31 _ rfl w.heap.size rfl X Tryz.underlying31 rfl (RC.hi (by kernel_rfl)) ?_) | (refine wpList_load_blkg (by rfl) 56 _ rfl w4.heap.size rfl Yw0 Tryz.underlying56 rfl (R_w0.hi (by kernel_rfl)) ?_) | (refine wpList_load_blkg (by rfl) 41 _ rfl w6.heap.size rfl Z Tryz.underlying41 rfl (R_xc.hi (by kernel_rfl)) ?_) | (refine wpList_load_blkg (by rfl) 56 _ rfl w9.heap.size rfl Yg0 Tryz.underlying56 rfl (R_g0.hi (by kernel_rfl)) ?_))
  refine (markNet_ow _ x0 bxc_0 bxc_1 bxc_2 _ _ (by exact xc) (by omega) (by omega)).mono ?_
  rintro e w16 ⟨rfl, mm, oo⟩
  replace X := X.off oo nb_X_xc
  replace Yw0 := Yw0.off oo nb_Yw0_xc
  replace Z := Z.off oo nb_Z_xc
  replace Yg0 := Yg0.off oo nb_Yg0_xc
  replace w0 := w0.off oo dj_w0_xc
  replace xs2 := xs2.off oo dj_xc_xs2.symm
  replace g0 := g0.off oo dj_xc_g0.symm
  replace B := B.trans (oo.toBelow B.size G_xc)
  clear xc oo
  have xc := mm
  clear mm
  go_wp2_with (first | (refine wpList_load_blkg (by rfl) 31 _ rfl w.heap.size rfl X Tryz.underlying31 rfl (RC.hi (by kernel_rfl)) ?_) | (refine wpList_load_blkg (by rfl) 56 _ rfl w4.heap.size rfl Yw0 Tryz.underlying56 rfl (R_w0.hi (by kernel_rfl)) ?_) | (refine wpList_load_blkg (by rfl) 41 _ rfl w6.heap.size rfl Z Tryz.underlying41 rfl (R_xc.hi (by kernel_rfl)) ?_) | (refine wpList_load_blkg (by rfl) 56 _ rfl w9.heap.size rfl Yg0 Tryz.underlying56 rfl (R_g0.hi (by kernel_rfl)) ?_))
  refine (markInt64S_ow _ x2 bxs2_0 _ _ (by exact xs2) (by omega) (by omega)).mono ?_
  rintro e w17 ⟨rfl, mm, oo⟩
  replace X := X.off oo nb_X_xs2
  replace Yw0 := Yw0.off oo nb_Yw0_xs2
  replace Z := Z.off oo nb_Z_xs2
  replace Yg0 := Yg0.off oo nb_Yg0_xs2
  replace w0 := w0.off oo dj_w0_xs2
  replace xc := xc.off oo dj_xc_xs2
  replace g0 := g0.off oo dj_xs2_g0.symm
  replace B := B.trans (oo.toBelow B.size G_xs2)
  clear xs2 oo
  have xs2 := mm
  clear mm
  go_wp2_with (first | (refine wpList_load_blkg (by rfl) 31 _ rfl w.heap.size rfl X Tryz.underlying31 rfl (RC.hi (by kernel_rfl)) ?_) | (refine wpList_load_blkg (by rfl) 56 _ rfl w4.heap.size rfl Yw0 Tryz.underlying56 rfl (R_w0.hi (by kernel_rfl)) ?_) | (refine wpList_load_blkg (by rfl) 41 _ rfl w6.heap.size rfl Z Tryz.underlying41 rfl (R_xc.hi (by kernel_rfl)) ?_) | (refine wpList_load_blkg (by rfl) 56 _ rfl w9.heap.size rfl Yg0 Tryz.underlying56 rfl (R_g0.hi (by kernel_rfl)) ?_))
  refine (eqManyResult_rd _ _ r _ (by exact g0.rd) (by exact w0.rd)).mono ?_
  rintro e w18 ⟨rfl, hb18⟩
  replace X := X.keep hb18
  replace Yw0 := Yw0.keep hb18
  replace Z := Z.keep hb18
  replace Yg0 := Yg0.keep hb18
  replace w0 := w0.keep hb18
  replace xc := xc.keep hb18
  replace xs2 := xs2.keep hb18
  replace g0 := g0.keep hb18
  replace B := B.trans (hb18.mono B.size)
  clear hb18
  go_wp2_with (first | (refine wpList_load_blkg (by rfl) 31 _ rfl w.heap.size rfl X Tryz.underlying31 rfl (RC.hi (by kernel_rfl)) ?_) | (refine wpList_load_blkg (by rfl) 56 _ rfl w4.heap.size rfl Yw0 Tryz.underlying56 rfl (R_w0.hi (by kernel_rfl)) ?_) | (refine wpList_load_blkg (by rfl) 41 _ rfl w6.heap.size rfl Z Tryz.underlying41 rfl (R_xc.hi (by kernel_rfl)) ?_) | (refine wpList_load_blkg (by rfl) 56 _ rfl w9.heap.size rfl Yg0 Tryz.underlying56 rfl (R_g0.hi (by kernel_rfl)) ?_))
  refine (markManyResult_ow _ r bg0_0 bg0_1 bg0_2 bg0_3 _ _ (by exact g0) (by omega) (by omega)).mono ?_
  rintro e w19 ⟨rfl, mm, oo⟩
  replace X := X.off oo nb_X_g0
  replace Yw0 := Yw0.off oo nb_Yw0_g0
  replace Z := Z.off oo nb_Z_g0
  replace Yg0 := Yg0.off oo nb_Yg0_g0
  replace w0 := w0.off oo dj_w0_g0
  replace xc := xc.off oo dj_xc_g0
  replace xs2 := xs2.off oo dj_xs2_g0
  replace B := B.trans (oo.toBelow B.size G_g0)
  clear g0 oo
  have g0 := mm
  clear mm
  go_wp2_with (first | (refine wpList_load_blkg (by rfl) 31 _ rfl w.heap.size rfl X Tryz.underlying31 rfl (RC.hi (by kernel_rfl)) ?_) | (refine wpList_load_blkg (by rfl) 56 _ rfl w4.heap.size rfl Yw0 Tryz.underlying56 rfl (R_w0.hi (by kernel_rfl)) ?_) | (refine wpList_load_blkg (by rfl) 41 _ rfl w6.heap.size rfl Z Tryz.underlying41 rfl (R_xc.hi (by kernel_rfl)) ?_) | (refine wpList_load_blkg (by rfl) 56 _ rfl w9.heap.size rfl Yg0 Tryz.underlying56 rfl (R_g0.hi (by kernel_rfl)) ?_))
  refine (heldManyResult_rd _ r _ _ (by exact g0.rd) (by omega) (by omega)).mono ?_
  rintro e w20 ⟨rfl, hb20⟩
  replace X := X.keep hb20
  replace Yw0 := Yw0.keep hb20
  replace Z := Z.keep hb20
  replace Yg0 := Yg0.keep hb20
  replace w0 := w0.keep hb20
  replace xc := xc.keep hb20
  replace xs2 := xs2.keep hb20
  replace g0 := g0.keep hb20
  replace B := B.trans (hb20.mono B.size)
  clear hb20
  go_wp2_with (first | (refine wpList_load_blkg (by rfl) 31 _ rfl w.heap.size rfl X Tryz.underlying31 rfl (RC.hi (by kernel_rfl)) ?_) | (refine wpList_load_blkg (by rfl) 56 _ rfl w4.heap.size rfl Yw0 Tryz.underlying56 rfl (R_w0.hi (by kernel_rfl)) ?_) | (refine wpList_load_blkg (by rfl) 41 _ rfl w6.heap.size rfl Z Tryz.underlying41 rfl (R_xc.hi (by kernel_rfl)) ?_) | (refine wpList_load_blkg (by rfl) 56 _ rfl w9.heap.size rfl Yg0 Tryz.underlying56 rfl (R_g0.hi (by kernel_rfl)) ?_))
  refine (toNet_ow _ x0 _ (by exact r0.below B) (by omega)).mono ?_
  rintro e w21 ⟨u, bh0a_0, bh0a_1, bh0a_2, rfl, h0a, fh0a_0, fh0a_1, fh0a_2, hb21⟩
  obtain ⟨cs_h0a, e_h0a, R_h0a⟩ := h0a.row
  subst e_h0a
  have F_h0a : ∀ y ∈ (bh0a_0 ++ (bh0a_1 ++ bh0a_2)), w20.heap.size ≤ y := all_app fh0a_0 (all_app fh0a_1 fh0a_2)
  have dj_w0_h0a : Dj (bw0_0 ++ (bw0_1 ++ (bw0_2 ++ bw0_3))) (bh0a_0 ++ (bh0a_1 ++ bh0a_2)) := fun y hy hm => Nat.not_lt.2 (F_h0a y hm) (w0.lt y hy)
  have dj_xc_h0a : Dj (bxc_0 ++ (bxc_1 ++ bxc_2)) (bh0a_0 ++ (bh0a_1 ++ bh0a_2)) := fun y hy hm => Nat.not_lt.2 (F_h0a y hm) (xc.lt y hy)
  have dj_xs2_h0a : Dj bxs2_0 (bh0a_0 ++ (bh0a_1 ++ bh0a_2)) := fun y hy hm => Nat.not_lt.2 (F_h0a y hm) (xs2.lt y hy)
  have dj_g0_h0a : Dj (bg0_0 ++ (bg0_1 ++ (bg0_2 ++ bg0_3))) (bh0a_0 ++ (bh0a_1 ++ bh0a_2)) := fun y hy hm => Nat.not_lt.2 (F_h0a y hm) (g0.lt y hy)
  have nb_X_h0a : w.heap.size ∉ (bh0a_0 ++ (bh0a_1 ++ bh0a_2)) := fun hm => Nat.not_lt.2 (F_h0a _ hm) X.lt
  have nb_Yw0_h0a : w4.heap.size ∉ (bh0a_0 ++ (bh0a_1 ++ bh0a_2)) := fun hm => Nat.not_lt.2 (F_h0a _ hm) Yw0.lt
  have nb_Z_h0a : w6.heap.size ∉ (bh0a_0 ++ (bh0a_1 ++ bh0a_2)) := fun hm => Nat.not_lt.2 (F_h0a _ hm) Z.lt
  have nb_Yg0_h0a : w9.heap.size ∉ (bh0a_0 ++ (bh0a_1 ++ bh0a_2)) := fun hm => Nat.not_lt.2 (F_h0a _ hm) Yg0.lt
  have G_h0a : ∀ y ∈ (bh0a_0 ++ (bh0a_1 ++ bh0a_2)), w.heap.size ≤ y := fun y hy => Nat.le_trans B.size (F_h0a y hy)
  clear F_h0a
  replace X := X.keep hb21
  replace Yw0 := Yw0.keep hb21
  replace Z := Z.keep hb21
  replace Yg0 := Yg0.keep hb21
  replace w0 := w0.keep hb21
  replace xc := xc.keep hb21
  replace xs2 := xs2.keep hb21
  replace g0 := g0.keep hb21
  replace B := B.trans (hb21.mono B.size)
  clear hb21 fh0a_0 fh0a_1 fh0a_2
  go_wp2_with (first | (refine wpList_load_blkg (by rfl) 31 _ rfl w.heap.size rfl X Tryz.underlying31 rfl (RC.hi (by kernel_rfl)) ?_) | (refine wpList_load_blkg (by rfl) 56 _ rfl w4.heap.size rfl Yw0 Tryz.underlying56 rfl (R_w0.hi (by kernel_rfl)) ?_) | (refine wpList_load_blkg (by rfl) 41 _ rfl w6.heap.size rfl Z Tryz.underlying41 rfl (R_xc.hi (by kernel_rfl)) ?_) | (refine wpList_load_blkg (by rfl) 56 _ rfl w9.heap.size rfl Yg0 Tryz.underlying56 rfl (R_g0.hi (by kernel_rfl)) ?_))
  refine (toInt64S_ow _ x2 _ (by exact r2.below B) (by omega)).mono ?_
  rintro e w22 ⟨u, bh0s2_0, rfl, h0s2, fh0s2_0, hb22⟩
  obtain ⟨ph0s2_0, ch0s2_0, rfl⟩ := Ints.value h0s2
  have F_h0s2 : ∀ y ∈ bh0s2_0, w21.heap.size ≤ y := fh0s2_0
  have dj_w0_h0s2 : Dj (bw0_0 ++ (bw0_1 ++ (bw0_2 ++ bw0_3))) bh0s2_0 := fun y hy hm => Nat.not_lt.2 (F_h0s2 y hm) (w0.lt y hy)
  have dj_xc_h0s2 : Dj (bxc_0 ++ (bxc_1 ++ bxc_2)) bh0s2_0 := fun y hy hm => Nat.not_lt.2 (F_h0s2 y hm) (xc.lt y hy)
  have dj_xs2_h0s2 : Dj bxs2_0 bh0s2_0 := fun y hy hm => Nat.not_lt.2 (F_h0s2 y hm) (xs2.lt y hy)
  have dj_g0_h0s2 : Dj (bg0_0 ++ (bg0_1 ++ (bg0_2 ++ bg0_3))) bh0s2_0 := fun y hy hm => Nat.not_lt.2 (F_h0s2 y hm) (g0.lt y hy)
  have dj_h0a_h0s2 : Dj (bh0a_0 ++ (bh0a_1 ++ bh0a_2)) bh0s2_0 := fun y hy hm => Nat.not_lt.2 (F_h0s2 y hm) (h0a.lt y hy)
  have nb_X_h0s2 : w.heap.size ∉ bh0s2_0 := fun hm => Nat.not_lt.2 (F_h0s2 _ hm) X.lt
  have nb_Yw0_h0s2 : w4.heap.size ∉ bh0s2_0 := fun hm => Nat.not_lt.2 (F_h0s2 _ hm) Yw0.lt
  have nb_Z_h0s2 : w6.heap.size ∉ bh0s2_0 := fun hm => Nat.not_lt.2 (F_h0s2 _ hm) Z.lt
  have nb_Yg0_h0s2 : w9.heap.size ∉ bh0s2_0 := fun hm => Nat.not_lt.2 (F_h0s2 _ hm) Yg0.lt
  have G_h0s2 : ∀ y ∈ bh0s2_0, w.heap.size ≤ y := fun y hy => Nat.le_trans B.size (F_h0s2 y hy)
  clear F_h0s2
  replace X := X.keep hb22
  replace Yw0 := Yw0.keep hb22
  replace Z := Z.keep hb22
  replace Yg0 := Yg0.keep hb22
  replace w0 := w0.keep hb22
  replace xc := xc.keep hb22
  replace xs2 := xs2.keep hb22
  replace g0 := g0.keep hb22
  replace h0a := h0a.keep hb22
  replace B := B.trans (hb22.mono B.size)
  clear hb22 fh0s2_0
  go_wp2_with (first | (refine wpList_load_blkg (by rfl) 31 _ rfl w.heap.size rfl X Tryz.underlying31 rfl (RC.hi (by kernel_rfl)) ?_) | (refine wpList_load_blkg (by rfl) 56 _ rfl w4.heap.size rfl Yw0 Tryz.underlying56 rfl (R_w0.hi (by kernel_rfl)) ?_) | (refine wpList_load_blkg (by rfl) 41 _ rfl w6.heap.size rfl Z Tryz.underlying41 rfl (R_xc.hi (by kernel_rfl)) ?_) | (refine wpList_load_blkg (by rfl) 56 _ rfl w9.heap.size rfl Yg0 Tryz.underlying56 rfl (R_g0.hi (by kernel_rfl)) ?_))
  refine (HI.out _ _ _ (by exact h0a.rd) (by exact Ints.reads h0s2)).mono ?_
  rintro e w23 ⟨u, bh0_0, bh0_1, bh0_2, bh0_3, rfl, h0, fh0_0, fh0_1, fh0_2, fh0_3, hb23⟩
  obtain ⟨cs_h0, e_h0, R_h0⟩ := h0.row
  subst e_h0
  have F_h0 : ∀ y ∈ (bh0_0 ++ (bh0_1 ++ (bh0_2 ++ bh0_3))), w22.heap.size ≤ y := all_app fh0_0 (all_app fh0_1 (all_app fh0_2 fh0_3))
  have dj_w0_h0 : Dj (bw0_0 ++ (bw0_1 ++ (bw0_2 ++ bw0_3))) (bh0_0 ++ (bh0_1 ++ (bh0_2 ++ bh0_3))) := fun y hy hm => Nat.not_lt.2 (F_h0 y hm) (w0.lt y hy)
  have dj_xc_h0 : Dj (bxc_0 ++ (bxc_1 ++ bxc_2)) (bh0_0 ++ (bh0_1 ++ (bh0_2 ++ bh0_3))) := fun y hy hm => Nat.not_lt.2 (F_h0 y hm) (xc.lt y hy)
  have dj_xs2_h0 : Dj bxs2_0 (bh0_0 ++ (bh0_1 ++ (bh0_2 ++ bh0_3))) := fun y hy hm => Nat.not_lt.2 (F_h0 y hm) (xs2.lt y hy)
  have dj_g0_h0 : Dj (bg0_0 ++ (bg0_1 ++ (bg0_2 ++ bg0_3))) (bh0_0 ++ (bh0_1 ++ (bh0_2 ++ bh0_3))) := fun y hy hm => Nat.not_lt.2 (F_h0 y hm) (g0.lt y hy)
  have dj_h0a_h0 : Dj (bh0a_0 ++ (bh0a_1 ++ bh0a_2)) (bh0_0 ++ (bh0_1 ++ (bh0_2 ++ bh0_3))) := fun y hy hm => Nat.not_lt.2 (F_h0 y hm) (h0a.lt y hy)
  have dj_h0s2_h0 : Dj bh0s2_0 (bh0_0 ++ (bh0_1 ++ (bh0_2 ++ bh0_3))) := fun y hy hm => Nat.not_lt.2 (F_h0 y hm) (h0s2.lt y hy)
  have nb_X_h0 : w.heap.size ∉ (bh0_0 ++ (bh0_1 ++ (bh0_2 ++ bh0_3))) := fun hm => Nat.not_lt.2 (F_h0 _ hm) X.lt
  have nb_Yw0_h0 : w4.heap.size ∉ (bh0_0 ++ (bh0_1 ++ (bh0_2 ++ bh0_3))) := fun hm => Nat.not_lt.2 (F_h0 _ hm) Yw0.lt
  have nb_Z_h0 : w6.heap.size ∉ (bh0_0 ++ (bh0_1 ++ (bh0_2 ++ bh0_3))) := fun hm => Nat.not_lt.2 (F_h0 _ hm) Z.lt
  have nb_Yg0_h0 : w9.heap.size ∉ (bh0_0 ++ (bh0_1 ++ (bh0_2 ++ bh0_3))) := fun hm => Nat.not_lt.2 (F_h0 _ hm) Yg0.lt
  have G_h0 : ∀ y ∈ (bh0_0 ++ (bh0_1 ++ (bh0_2 ++ bh0_3))), w.heap.size ≤ y := fun y hy => Nat.le_trans B.size (F_h0 y hy)
  clear F_h0
  replace X := X.keep hb23
  replace Yw0 := Yw0.keep hb23
  replace Z := Z.keep hb23
  replace Yg0 := Yg0.keep hb23
  replace w0 := w0.keep hb23
  replace xc := xc.keep hb23
  replace xs2 := xs2.keep hb23
  replace g0 := g0.keep hb23
  replace h0a := h0a.keep hb23
  replace h0s2 := h0s2.keep hb23
  replace B := B.trans (hb23.mono B.size)
  clear hb23 fh0_0 fh0_1 fh0_2 fh0_3
  clear h0a G_h0a
  clear h0s2 G_h0s2
  go_wp2_with (first | (refine wpList_store_blk rfl 56 _ _ rfl w23.heap.size cs_h0 rfl rfl (Blk.new _ _ _) (by rw [R_h0.1]; rfl) (R_h0.hi (by kernel_rfl)) R_h0.2 ?_; intro w24 Yh0 o24; have nb_Yh0_w0 : w23.heap.size ∉ (bw0_0 ++ (bw0_1 ++ (bw0_2 ++ bw0_3))) := (fun hm => Nat.lt_irrefl _ (w0.lt _ hm)); have nb_Yh0_xc : w23.heap.size ∉ (bxc_0 ++ (bxc_1 ++ bxc_2)) := (fun hm => Nat.lt_irrefl _ (xc.lt _ hm)); have nb_Yh0_xs2 : w23.heap.size ∉ bxs2_0 := (fun hm => Nat.lt_irrefl _ (xs2.lt _ hm)); have nb_Yh0_g0 : w23.heap.size ∉ (bg0_0 ++ (bg0_1 ++ (bg0_2 ++ bg0_3))) := (fun hm => Nat.lt_irrefl _ (g0.lt _ hm)); have nb_Yh0_h0 : w23.heap.size ∉ (bh0_0 ++ (bh0_1 ++ (bh0_2 ++ bh0_3))) := (fun hm => Nat.lt_irrefl _ (h0.lt _ hm)); replace X := (X.alloc _).off o24 (nbnew X.lt); replace Yw0 := (Yw0.alloc _).off o24 (nbnew Yw0.lt); replace Z := (Z.alloc _).off o24 (nbnew Z.lt); replace Yg0 := (Yg0.alloc _).off o24 (nbnew Yg0.lt); replace w0 := (w0.alloc _).off o24 (djnew w0.lt); replace xc := (xc.alloc _).off o24 (djnew xc.lt); replace xs2 := (xs2.alloc _).off o24 (djnew xs2.lt); replace g0 := (g0.alloc _).off o24 (djnew g0.lt); replace h0 := (h0.alloc _).off o24 (djnew h0.lt); replace B := below_past B o24; clear o24) | (refine wpList_load_blkg (by rfl) 31 _ rfl w.heap.size rfl X Tryz.underlying31 rfl (RC.hi (by kernel_rfl)) ?_) | (refine wpList_load_blkg (by rfl) 56 _ rfl w4.heap.size rfl Yw0 Tryz.underlying56 rfl (R_w0.hi (by kernel_rfl)) ?_) | (refine wpList_load_blkg (by rfl) 41 _ rfl w6.heap.size rfl Z Tryz.underlying41 rfl (R_xc.hi (by kernel_rfl)) ?_) | (refine wpList_load_blkg (by rfl) 56 _ rfl w9.heap.size rfl Yg0 Tryz.underlying56 rfl (R_g0.hi (by kernel_rfl)) ?_) | (refine wpList_load_blkg (by rfl) 56 _ rfl w23.heap.size rfl Yh0 Tryz.underlying56 rfl (R_h0.hi (by kernel_rfl)) ?_))
  refine (eqManyResult_rd _ _ r _ (by exact h0.rd) (by exact w0.rd)).mono ?_
  rintro e w25 ⟨rfl, hb25⟩
  replace X := X.keep hb25
  replace Yw0 := Yw0.keep hb25
  replace Z := Z.keep hb25
  replace Yg0 := Yg0.keep hb25
  replace Yh0 := Yh0.keep hb25
  replace w0 := w0.keep hb25
  replace xc := xc.keep hb25
  replace xs2 := xs2.keep hb25
  replace g0 := g0.keep hb25
  replace h0 := h0.keep hb25
  replace B := B.trans (hb25.mono B.size)
  clear hb25
  go_wp2_with (first | (refine wpList_load_blkg (by rfl) 31 _ rfl w.heap.size rfl X Tryz.underlying31 rfl (RC.hi (by kernel_rfl)) ?_) | (refine wpList_load_blkg (by rfl) 56 _ rfl w4.heap.size rfl Yw0 Tryz.underlying56 rfl (R_w0.hi (by kernel_rfl)) ?_) | (refine wpList_load_blkg (by rfl) 41 _ rfl w6.heap.size rfl Z Tryz.underlying41 rfl (R_xc.hi (by kernel_rfl)) ?_) | (refine wpList_load_blkg (by rfl) 56 _ rfl w9.heap.size rfl Yg0 Tryz.underlying56 rfl (R_g0.hi (by kernel_rfl)) ?_) | (refine wpList_load_blkg (by rfl) 56 _ rfl w23.heap.size rfl Yh0 Tryz.underlying56 rfl (R_h0.hi (by kernel_rfl)) ?_))
  refine (heldManyResult_rd _ r _ _ (by exact g0.rd) (by omega) (by omega)).mono ?_
  rintro e w26 ⟨rfl, hb26⟩
  replace X := X.keep hb26
  replace Yw0 := Yw0.keep hb26
  replace Z := Z.keep hb26
  replace Yg0 := Yg0.keep hb26
  replace Yh0 := Yh0.keep hb26
  replace w0 := w0.keep hb26
  replace xc := xc.keep hb26
  replace xs2 := xs2.keep hb26
  replace g0 := g0.keep hb26
  replace h0 := h0.keep hb26
  replace B := B.trans (hb26.mono B.size)
  clear hb26
  go_wp2
  go_ret
  exact ⟨rfl, B⟩
/-! the row's step -/
set_option maxRecDepth 100000 in
theorem lifted (os : Os) (started : os.Started) (H : Type) (enc : TypeId × Value → H) :
    ReturnsInHanded {} Tryz.checked os 5 .any (Rows.fnExactInputManySpec.pre6 enc Tryz.prog Tryz.f5 Rows.fnExactInputManyRow.domain false) (Rows.fnExactInputManySpec.post enc Tryz.prog Tryz.f5 false true false false) := by
  refine returnsInHanded_of_change (C := Tryz.checked) own started (by kernel_rfl) Tryz.func5
    (ChangeSpec.witness6 (enc := enc) (C := Tryz.checked) false ⟨#[], #[.agg #[.slice none 0 0, .slice none 0 0, .int .i64 0, .slice none 0 0, .int .i64 0, .int .i64 0, .int .i64 0, .bool false, .bool false, .int .i64 0, .int .i64 0, .int .i64 0, .int .i64 0, .int .i64 0, .int .i64 0, .int .i64 0], .int .i64 0, .slice none 0 0], []⟩ 8 (by kernel_rfl) (by kernel_rfl) (by kernel_rfl) (by kernel_rfl)) ?_
  intro W base args ds gs before hval0 hW hcnd _
  have hval : ∀ (j : Nat) t v, Tryz.f5.params[j]? = some t → args[j]? = some v → Value.okWide Tryz.prog W .any base t v := hval0
  have hW' := hW
  obtain ⟨p, q, hA0, hV, rfl, hfz, hnd⟩ := hW
  have hA : DataW.TrodAll enc Tryz.prog W 0 (fun _ => true) true Tryz.f5.params.toList args.toList ds p := hA0
  rw [Tryz.params5] at hA hval
  obtain ⟨v0, vs0, d0, ds0, p0, q0, hargs, rfl, rfl, h0, r0⟩ := trodAll_cons hA
  obtain ⟨v1, vs1, d1, ds1, p1, q1, rfl, rfl, rfl, h1, r1⟩ := trodAll_cons r0
  obtain ⟨v2, vs2, d2, ds2, p2, q2, rfl, rfl, rfl, h2, r2⟩ := trodAll_cons r1
  obtain ⟨rfl, rfl, rfl⟩ := trodAll_nil r2
  obtain rfl : args = #[v0, v1, v2] := by cases args; simp_all
  obtain ⟨rfl, rfl⟩ := trodVars_none hV
  have k0 := h0
  have lt0 : ∀ x ∈ p0, x.block < W.heap.size := by obtain ⟨m, hm⟩ := k0; exact DataW.trod_lt m _ _ _ hm
  obtain ⟨cs0, rfl, _⟩ := okWide_struct Tryz.underlying31 (hval 0 31 v0 rfl rfl)
  obtain ⟨x0, w0⟩ : ∃ y, RdNet W (.agg cs0) y := by
    obtain ⟨fuel, hf⟩ := h0
    obtain ⟨y, q⟩ := open_Net hf
    exact ⟨y, by simpa [Value.cells] using q⟩
  obtain ⟨a1, rfl, rfl, rfl, w1⟩ := open_int Tryz.underlying2 (hval 1 2 v1 rfl rfl) h1
  have k2 := h2
  have lt2 : ∀ x ∈ p2, x.block < W.heap.size := by obtain ⟨m, hm⟩ := k2; exact DataW.trod_lt m _ _ _ hm
  obtain ⟨a2, len2, cap2, rfl⟩ := okWide_slice Tryz.underlying25 (hval 2 25 v2 rfl rfl)
  obtain ⟨x2, w2⟩ : ∃ y, Reads W .i64 (.slice a2 len2 cap2) y := by
    obtain ⟨fuel, hf⟩ := h2
    obtain ⟨v, y, e, q, _⟩ := open_Int64S hf
    obtain rfl : _ = v := by simpa [Value.cells] using e
    exact ⟨y, q⟩
  clear hA0 hval0
  refine (walk _ x0 a1 _ x2 W w0 w2 w1).mono fun e W' ⟨he, bel⟩ => ?_
  subst he
  exact ⟨_, rfl, _, _, _, [], _, [], hW', trodAll_mk1 (shut_bool Tryz.underlying4 _), (trodAll_cons_mk (Below.trod laidOut (by kernel_rfl) (of_decide_eq_true (by kernel_rfl)) k0 bel lt0) (trodAll_cons_mk (shut_int Tryz.underlying2 w1) (trodAll_cons_mk (Below.trod laidOut (by kernel_rfl) (of_decide_eq_true (by kernel_rfl)) k2 bel lt2) trodAll_mk0))), rfl, bel.frame _, fun h => by cases h⟩

theorem over : Rows.fnExactInputManyRow.holds Tryz.pinned (OpenSpec.ofChange Rows.fnExactInputManySpec) :=
  OpenClaim.holds_of_wide 5 Tryz.f5 rfl rfl rfl rfl rfl rfl rfl ⟨rfl, rfl, rfl, rfl, rfl⟩ rfl rfl rfl rfl rfl (by kernel_rfl) Tryz.func5 (by kernel_rfl)
    (of_decide_eq_true (by kernel_rfl)) (by unfold Func.isWrapper; first | (rw [if_pos (by decide +kernel)]; kernel_rfl) | (rw [if_neg (by decide +kernel)]; exact ⟨rfl, rfl⟩))
    (fun os started H enc _ => lifted os started H enc)

end Go.Proofs.YtbmemdgeohnpnalGreat.fnExactInputMany
namespace Go.Proofs.YtbmemdgeohnpnalGreat
theorem fnExactInputMany_holds : Rows.FnExactInputManySaid := fnExactInputMany.over
#print axioms fnExactInputMany_holds
end Go.Proofs.YtbmemdgeohnpnalGreat
