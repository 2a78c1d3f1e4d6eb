/-
  FnExactPartBits answers true at every mirror and every whole number: the program's PartBits answers as its model does, writes into no argument, and each answer owns its memory.
-/
import Derived.Test.YtepobckhfodnganOpen
import Derived.Test.YtepobckhfodnganPbT
import Derived.Test.YtepobckhfodnganWhole
import Derived.Test.YtepobckhfodnganRow2
import Derived.Test.YtepobckhfodnganOpen
import Derived.Test.YtepobckhfodnganOpen
import Derived.Deep.RegionHeld3
import Derived.Deep.CutRange
import Derived.Deep.Cut
import Derived.Deep.RegionWith
import Derived.ShutString
import Derived.ChangeOld
import Derived.Below
namespace Go.Proofs.Ytepobckhfodngan.fnExactPartBits
open Go.ChangeShapes Go.WideShapes Go.ChangeAt Go.RowKit
open Go.ChangeMaps (open_string shut_string)
set_option linter.unusedVariables false

theorem own : ownKnob Try.prog.godebug = none := by kernel_rfl
theorem laidOut : laidOutB Try.prog = true := by kernel_rfl

set_option maxHeartbeats 4000000 in
set_option maxRecDepth 100000 in
theorem walk (v0 : Value) (x0 : MMirror) (a1 : Int) (w : World) (r0 : RdMirror w (v0) x0) (w1 : (Lit.int .i64 a1).wf = true) :
    Calls Try.prog 3 #[v0, .int .i64 a1] w fun e w' => e = .returned (.bool true) ∧ Below w.heap.size w w' := by
  obtain ⟨p0_0, c0_0, hv0, r0_0⟩ := r0
  subst hv0
  have r0 : RdMirror w (.agg #[.int .i64 x0.xQ, .slice p0_0 x0.xViews.length c0_0]) x0 := ⟨p0_0, c0_0, rfl, r0_0⟩
  clear r0_0
  by_cases s0 : (1048576 : Int) < (totMirror x0 : Nat)
  · skip
    go_enter Try.func3, Try.ntmps3
    go_wp2_with fail
    refine Calls.at (F := fun V => Blk V (w.heap.size) 24 #[.int .i64 x0.xQ, .slice p0_0 x0.xViews.length c0_0] ∧ Below w.heap.size w V) ⟨?_, ?_⟩ ?_
    · exact (Blk.new w 24 #[.int .i64 x0.xQ, .slice p0_0 x0.xViews.length c0_0])
    · exact (by repeat (first | exact Below.refl _ _ | refine Below.drew ?_ | refine below_drewN ?_ _ | refine Below.setCell ?_ (by first | omega | (simp; done) | (simp; omega)) _ | refine Below.alloc ?_ (by first | omega | (simp; done) | (simp; omega)) _))
    rintro V1 ⟨X0, B⟩
    refine (szMirror_over _ x0 _ _ (by exact r0.below B) (by omega) (by omega) (by omega)).mono ?_
    rintro e w2 ⟨rfl, hb2⟩
    replace X0 := X0.keep hb2
    replace B := B.trans (hb2.mono B.size)
    go_wp2
    go_ret
    exact ⟨rfl, B⟩
  have hc0 := cntMirror_le x0
  have KS : ∀ (V : World) (u0 : Value), RdMirror V (u0) x0 → Calls Try.prog 7 #[u0, .int .i64 a1] V fun e V' => ∃ u b0, e = .returned u ∧ OwManyBits V' (u) (pbR x0 a1) b0 ∧ (∀ y ∈ b0, V.heap.size ≤ y) ∧ Below V.heap.size V V' := fun V u0 h => spec_PartBits _ _ _ _ h
  have KI : ∀ (V : World) (u0 : Value), RdMirror V (u0) x0 → Calls Try.prog 9 #[u0, .int .i64 a1] V fun e V' => ∃ u b0, e = .returned u ∧ OwManyBits V' (u) (pbR x0 a1) b0 ∧ (∀ y ∈ b0, V.heap.size ≤ y) ∧ Below V.heap.size V V' := fun V u0 h => impl_PartBits _ _ _ _ h
  obtain ⟨r, HS, HI, hcr⟩ : ∃ r : MManyBits, Hid (∀ (V : World) (u0 : Value), RdMirror V (u0) x0 → Calls Try.prog 7 #[u0, .int .i64 a1] V fun e V' => ∃ u b0, e = .returned u ∧ OwManyBits V' (u) r b0 ∧ (∀ y ∈ b0, V.heap.size ≤ y) ∧ Below V.heap.size V V') ∧ Hid (∀ (V : World) (u0 : Value), RdMirror V (u0) x0 → Calls Try.prog 9 #[u0, .int .i64 a1] V fun e V' => ∃ u b0, e = .returned u ∧ OwManyBits V' (u) r b0 ∧ (∀ y ∈ b0, V.heap.size ≤ y) ∧ Below V.heap.size V V') ∧ cntManyBits r ≤ 268435456 := ⟨pbR x0 a1, KS, KI, pbR_cnt x0 a1⟩
  clear KS KI
  go_enter Try.func3, Try.ntmps3
  go_wp2_with fail
  refine Calls.at (F := fun V => Blk V (w.heap.size) 24 #[.int .i64 x0.xQ, .slice p0_0 x0.xViews.length c0_0] ∧ Below w.heap.size w V) ⟨?_, ?_⟩ ?_
  · exact (Blk.new w 24 #[.int .i64 x0.xQ, .slice p0_0 x0.xViews.length c0_0])
  · exact (by repeat (first | exact Below.refl _ _ | refine Below.drew ?_ | refine below_drewN ?_ _ | refine Below.setCell ?_ (by first | omega | (simp; done) | (simp; omega)) _ | refine Below.alloc ?_ (by first | omega | (simp; done) | (simp; omega)) _))
  rintro V3 ⟨X0, B⟩
  refine (szMirror_fit _ x0 _ _ (by exact r0.below B) (by omega) (by omega) (by omega)).mono ?_
  rintro e w4 ⟨rfl, hb4⟩
  replace X0 := X0.keep hb4
  replace B := B.trans (hb4.mono B.size)
  have X0a := X0.at.1
  have X0l := X0.lt
  go_wp2_with fail
  clear X0a X0l
  refine Calls.at (F := fun V => Blk V (w.heap.size) 24 #[.int .i64 x0.xQ, .slice p0_0 x0.xViews.length c0_0] ∧ Below w.heap.size w V) ⟨X0, B⟩ ?_
  clear X0 B
  rintro V5 ⟨X0, B⟩
  refine (toMirror_ow _ x0 _ (by exact r0.below B) (by omega)).mono ?_
  rintro e w6 ⟨u, bw0a0_0, rfl, w0a0, fw0a0_0, hb6⟩
  obtain ⟨pw0a0_0, cw0a0_0, rfl⟩ := w0a0.shp
  have F_w0a0 : ∀ y ∈ bw0a0_0, V5.heap.size ≤ y := fw0a0_0
  have nb_X0_w0a0 : w.heap.size ∉ bw0a0_0 := fun hm => Nat.not_lt.2 (F_w0a0 _ hm) X0.lt
  have G_w0a0 : ∀ y ∈ bw0a0_0, w.heap.size ≤ y := fun y hy => Nat.le_trans B.size (F_w0a0 y hy)
  clear F_w0a0
  replace X0 := X0.keep hb6
  replace B := B.trans (hb6.mono B.size)
  have X0a := X0.at.1
  have X0l := X0.lt
  go_wp2_with fail
  clear X0a X0l
  refine Calls.at (F := fun V => Blk V (w.heap.size) 24 #[.int .i64 x0.xQ, .slice p0_0 x0.xViews.length c0_0] ∧ Below w.heap.size w V ∧ OwMirror V (.agg #[.int .i64 x0.xQ, .slice pw0a0_0 x0.xViews.length cw0a0_0]) x0 bw0a0_0) ⟨X0, B, w0a0⟩ ?_
  clear X0 B w0a0
  rintro V7 ⟨X0, B, w0a0⟩
  refine (HS.out _ _ (by exact w0a0.rd)).mono ?_
  rintro e w8 ⟨u, bw0_0, rfl, w0, fw0_0, hb8⟩
  obtain ⟨pw0_0, cw0_0, rfl⟩ := w0.shp
  have F_w0 : ∀ y ∈ bw0_0, V7.heap.size ≤ y := fw0_0
  have dj_w0a0_w0 : Dj bw0a0_0 bw0_0 := fun y hy hm => Nat.not_lt.2 (F_w0 y hm) (w0a0.lt y hy)
  have nb_X0_w0 : w.heap.size ∉ bw0_0 := fun hm => Nat.not_lt.2 (F_w0 _ hm) X0.lt
  have G_w0 : ∀ y ∈ bw0_0, w.heap.size ≤ y := fun y hy => Nat.le_trans B.size (F_w0 y hy)
  clear F_w0
  replace X0 := X0.keep hb8
  replace w0a0 := w0a0.keep hb8
  replace B := B.trans (hb8.mono B.size)
  clear w0a0 G_w0a0
  have X0a := X0.at.1
  have X0l := X0.lt
  go_wp2_with fail
  clear X0a X0l
  have nb_Yw0_w0 : w8.heap.size ∉ bw0_0 := fun hm => Nat.lt_irrefl _ (w0.lt _ hm)
  refine Calls.at (F := fun V => Blk V (w.heap.size) 24 #[.int .i64 x0.xQ, .slice p0_0 x0.xViews.length c0_0] ∧ Blk V (w8.heap.size) 28 #[.int .i64 r.xCode, .slice pw0_0 r.xMirrors.length cw0_0] ∧ Below w.heap.size w V ∧ OwManyBits V (.agg #[.int .i64 r.xCode, .slice pw0_0 r.xMirrors.length cw0_0]) r bw0_0) ⟨X0.alloc _, Blk.new _ _ _, B.alloc B.size _, w0.alloc _⟩ ?_
  clear X0 B w0
  rintro V9 ⟨X0, Yw0, B, w0⟩
  refine (toMirror_ow _ x0 _ (by exact r0.below B) (by omega)).mono ?_
  rintro e w10 ⟨u, bx0c_0, rfl, x0c, fx0c_0, hb10⟩
  obtain ⟨px0c_0, cx0c_0, rfl⟩ := x0c.shp
  have F_x0c : ∀ y ∈ bx0c_0, V9.heap.size ≤ y := fx0c_0
  have dj_w0_x0c : Dj bw0_0 bx0c_0 := fun y hy hm => Nat.not_lt.2 (F_x0c y hm) (w0.lt y hy)
  have nb_X0_x0c : w.heap.size ∉ bx0c_0 := fun hm => Nat.not_lt.2 (F_x0c _ hm) X0.lt
  have nb_Yw0_x0c : w8.heap.size ∉ bx0c_0 := fun hm => Nat.not_lt.2 (F_x0c _ hm) Yw0.lt
  have G_x0c : ∀ y ∈ bx0c_0, w.heap.size ≤ y := fun y hy => Nat.le_trans B.size (F_x0c y hy)
  clear F_x0c
  replace X0 := X0.keep hb10
  replace Yw0 := Yw0.keep hb10
  replace w0 := w0.keep hb10
  replace B := B.trans (hb10.mono B.size)
  have X0a := X0.at.1
  have X0l := X0.lt
  have Yw0a := Yw0.at.1
  have Yw0l := Yw0.lt
  go_wp2_with fail
  clear X0a X0l Yw0a Yw0l
  have nb_Z0_w0 : w10.heap.size ∉ bw0_0 := fun hm => Nat.lt_irrefl _ (w0.lt _ hm)
  have nb_Z0_x0c : w10.heap.size ∉ bx0c_0 := fun hm => Nat.lt_irrefl _ (x0c.lt _ hm)
  refine Calls.at (F := fun V => Blk V (w.heap.size) 24 #[.int .i64 x0.xQ, .slice p0_0 x0.xViews.length c0_0] ∧ Blk V (w8.heap.size) 28 #[.int .i64 r.xCode, .slice pw0_0 r.xMirrors.length cw0_0] ∧ Blk V (w10.heap.size) 30 #[.int .i64 x0.xQ, .slice px0c_0 x0.xViews.length cx0c_0] ∧ Below w.heap.size w V ∧ OwManyBits V (.agg #[.int .i64 r.xCode, .slice pw0_0 r.xMirrors.length cw0_0]) r bw0_0 ∧ OwMirror V (.agg #[.int .i64 x0.xQ, .slice px0c_0 x0.xViews.length cx0c_0]) x0 bx0c_0) ⟨X0.alloc _, Yw0.alloc _, Blk.new _ _ _, B.alloc B.size _, w0.alloc _, x0c.alloc _⟩ ?_
  clear X0 Yw0 B w0 x0c
  rintro V11 ⟨X0, Yw0, Z0, B, w0, x0c⟩
  refine (HI.out _ _ (by exact x0c.rd)).mono ?_
  rintro e w12 ⟨u, bg0_0, rfl, g0, fg0_0, hb12⟩
  obtain ⟨pg0_0, cg0_0, rfl⟩ := g0.shp
  have F_g0 : ∀ y ∈ bg0_0, V11.heap.size ≤ y := fg0_0
  have dj_w0_g0 : Dj bw0_0 bg0_0 := fun y hy hm => Nat.not_lt.2 (F_g0 y hm) (w0.lt y hy)
  have dj_x0c_g0 : Dj bx0c_0 bg0_0 := fun y hy hm => Nat.not_lt.2 (F_g0 y hm) (x0c.lt y hy)
  have nb_X0_g0 : w.heap.size ∉ bg0_0 := fun hm => Nat.not_lt.2 (F_g0 _ hm) X0.lt
  have nb_Yw0_g0 : w8.heap.size ∉ bg0_0 := fun hm => Nat.not_lt.2 (F_g0 _ hm) Yw0.lt
  have nb_Z0_g0 : w10.heap.size ∉ bg0_0 := fun hm => Nat.not_lt.2 (F_g0 _ hm) Z0.lt
  have G_g0 : ∀ y ∈ bg0_0, w.heap.size ≤ y := fun y hy => Nat.le_trans B.size (F_g0 y hy)
  clear F_g0
  replace X0 := X0.keep hb12
  replace Yw0 := Yw0.keep hb12
  replace Z0 := Z0.keep hb12
  replace w0 := w0.keep hb12
  replace x0c := x0c.keep hb12
  replace B := B.trans (hb12.mono B.size)
  have X0a := X0.at.1
  have X0l := X0.lt
  have Yw0a := Yw0.at.1
  have Yw0l := Yw0.lt
  have Z0a := Z0.at.1
  have Z0l := Z0.lt
  go_wp2_with fail
  clear X0a X0l Yw0a Yw0l Z0a Z0l
  have nb_Yg0_w0 : w12.heap.size ∉ bw0_0 := fun hm => Nat.lt_irrefl _ (w0.lt _ hm)
  have nb_Yg0_x0c : w12.heap.size ∉ bx0c_0 := fun hm => Nat.lt_irrefl _ (x0c.lt _ hm)
  have nb_Yg0_g0 : w12.heap.size ∉ bg0_0 := fun hm => Nat.lt_irrefl _ (g0.lt _ hm)
  refine Calls.at (F := fun V => Blk V (w.heap.size) 24 #[.int .i64 x0.xQ, .slice p0_0 x0.xViews.length c0_0] ∧ Blk V (w8.heap.size) 28 #[.int .i64 r.xCode, .slice pw0_0 r.xMirrors.length cw0_0] ∧ Blk V (w10.heap.size) 30 #[.int .i64 x0.xQ, .slice px0c_0 x0.xViews.length cx0c_0] ∧ Blk V (w12.heap.size) 28 #[.int .i64 r.xCode, .slice pg0_0 r.xMirrors.length cg0_0] ∧ Below w.heap.size w V ∧ OwManyBits V (.agg #[.int .i64 r.xCode, .slice pw0_0 r.xMirrors.length cw0_0]) r bw0_0 ∧ OwMirror V (.agg #[.int .i64 x0.xQ, .slice px0c_0 x0.xViews.length cx0c_0]) x0 bx0c_0 ∧ OwManyBits V (.agg #[.int .i64 r.xCode, .slice pg0_0 r.xMirrors.length cg0_0]) r bg0_0) ⟨X0.alloc _, Yw0.alloc _, Z0.alloc _, Blk.new _ _ _, B.alloc B.size _, w0.alloc _, x0c.alloc _, g0.alloc _⟩ ?_
  clear X0 Yw0 Z0 B w0 x0c g0
  rintro V13 ⟨X0, Yw0, Z0, Yg0, B, w0, x0c, g0⟩
  refine (eqManyBits_rd _ _ r _ (by exact g0.rd) (by exact w0.rd)).mono ?_
  rintro e w14 ⟨rfl, hb14⟩
  replace X0 := X0.keep hb14
  replace Yw0 := Yw0.keep hb14
  replace Z0 := Z0.keep hb14
  replace Yg0 := Yg0.keep hb14
  replace w0 := w0.keep hb14
  replace x0c := x0c.keep hb14
  replace g0 := g0.keep hb14
  replace B := B.trans (hb14.mono B.size)
  have X0a := X0.at.1
  have X0l := X0.lt
  have Yw0a := Yw0.at.1
  have Yw0l := Yw0.lt
  have Z0a := Z0.at.1
  have Z0l := Z0.lt
  have Yg0a := Yg0.at.1
  have Yg0l := Yg0.lt
  go_wp2_with fail
  clear X0a X0l Yw0a Yw0l Z0a Z0l Yg0a Yg0l
  have Z0S := Z0.at.1
  have X0S := X0.at.1
  have hS : (∀ o, w14.cell? ⟨w10.heap.size, o, none⟩ = (#[.int .i64 x0.xQ, .slice px0c_0 x0.xViews.length cx0c_0] : Array Value)[o]?) ∧ (∀ o, w14.cell? ⟨w.heap.size, o, none⟩ = (#[.int .i64 x0.xQ, .slice p0_0 x0.xViews.length c0_0] : Array Value)[o]?) := ⟨Z0S, X0S⟩
  clear Z0S X0S
  have tk0 : Hid True := trivial
  have tk1 : Hid True := trivial
  go_region_held3 (fun V => (∀ o, V.cell? ⟨w10.heap.size, o, none⟩ = (#[.int .i64 x0.xQ, .slice px0c_0 x0.xViews.length cx0c_0] : Array Value)[o]?) ∧ (∀ o, V.cell? ⟨w.heap.size, o, none⟩ = (#[.int .i64 x0.xQ, .slice p0_0 x0.xViews.length c0_0] : Array Value)[o]?)) (first | exact hS | exact ⟨(Z0.alloc _).at.1, (X0.alloc _).at.1⟩) (first | (go_at_call 8; have _t := tk0; clear _t tk0; refine Calls.at (F := fun V => Blk V (w.heap.size) 24 #[.int .i64 x0.xQ, .slice p0_0 x0.xViews.length c0_0] ∧ Blk V (w8.heap.size) 28 #[.int .i64 r.xCode, .slice pw0_0 r.xMirrors.length cw0_0] ∧ Blk V (w10.heap.size) 30 #[.int .i64 x0.xQ, .slice px0c_0 x0.xViews.length cx0c_0] ∧ Blk V (w12.heap.size) 28 #[.int .i64 r.xCode, .slice pg0_0 r.xMirrors.length cg0_0] ∧ Below w.heap.size w V ∧ OwManyBits V (.agg #[.int .i64 r.xCode, .slice pw0_0 r.xMirrors.length cw0_0]) r bw0_0 ∧ OwMirror V (.agg #[.int .i64 x0.xQ, .slice px0c_0 x0.xViews.length cx0c_0]) x0 bx0c_0 ∧ OwManyBits V (.agg #[.int .i64 r.xCode, .slice pg0_0 r.xMirrors.length cg0_0]) r bg0_0) ?_ ?_; (first | exact ⟨X0, Yw0, Z0, Yg0, B, w0, x0c, g0⟩ | exact ⟨X0.drew, Yw0.drew, Z0.drew, Yg0.drew, B.drew, w0.drew, x0c.drew, g0.drew⟩); clear hS X0 Yw0 Z0 Yg0 B w0 x0c g0; rintro V15 ⟨X0, Yw0, Z0, Yg0, B, w0, x0c, g0⟩; refine (toMirror_ow _ x0 _ (by exact r0.below B) (by omega)).mono ?_; rintro e w16 ⟨u, by0_0, rfl, y0, fy0_0, hb16⟩; obtain ⟨py0_0, cy0_0, rfl⟩ := y0.shp; have F_y0 : ∀ y ∈ by0_0, V15.heap.size ≤ y := fy0_0; have dj_w0_y0 : Dj bw0_0 by0_0 := fun y hy hm => Nat.not_lt.2 (F_y0 y hm) (w0.lt y hy); have dj_x0c_y0 : Dj bx0c_0 by0_0 := fun y hy hm => Nat.not_lt.2 (F_y0 y hm) (x0c.lt y hy); have dj_g0_y0 : Dj bg0_0 by0_0 := fun y hy hm => Nat.not_lt.2 (F_y0 y hm) (g0.lt y hy); have nb_X0_y0 : w.heap.size ∉ by0_0 := fun hm => Nat.not_lt.2 (F_y0 _ hm) X0.lt; have nb_Yw0_y0 : w8.heap.size ∉ by0_0 := fun hm => Nat.not_lt.2 (F_y0 _ hm) Yw0.lt; have nb_Z0_y0 : w10.heap.size ∉ by0_0 := fun hm => Nat.not_lt.2 (F_y0 _ hm) Z0.lt; have nb_Yg0_y0 : w12.heap.size ∉ by0_0 := fun hm => Nat.not_lt.2 (F_y0 _ hm) Yg0.lt; have G_y0 : ∀ y ∈ by0_0, w.heap.size ≤ y := fun y hy => Nat.le_trans B.size (F_y0 y hy); clear F_y0; replace X0 := X0.keep hb16; replace Yw0 := Yw0.keep hb16; replace Z0 := Z0.keep hb16; replace Yg0 := Yg0.keep hb16; replace w0 := w0.keep hb16; replace x0c := x0c.keep hb16; replace g0 := g0.keep hb16; replace B := B.trans (hb16.mono B.size); have hS := (show (∀ o, w16.cell? ⟨w10.heap.size, o, none⟩ = (#[.int .i64 x0.xQ, .slice px0c_0 x0.xViews.length cx0c_0] : Array Value)[o]?) ∧ (∀ o, w16.cell? ⟨w.heap.size, o, none⟩ = (#[.int .i64 x0.xQ, .slice p0_0 x0.xViews.length c0_0] : Array Value)[o]?) from ⟨Z0.at.1, X0.at.1⟩)) | (go_at_call 11; have _t := tk1; clear _t tk1; refine Calls.at (F := fun V => Blk V (w.heap.size) 24 #[.int .i64 x0.xQ, .slice p0_0 x0.xViews.length c0_0] ∧ Blk V (w8.heap.size) 28 #[.int .i64 r.xCode, .slice pw0_0 r.xMirrors.length cw0_0] ∧ Blk V (w10.heap.size) 30 #[.int .i64 x0.xQ, .slice px0c_0 x0.xViews.length cx0c_0] ∧ Blk V (w12.heap.size) 28 #[.int .i64 r.xCode, .slice pg0_0 r.xMirrors.length cg0_0] ∧ Below w.heap.size w V ∧ OwManyBits V (.agg #[.int .i64 r.xCode, .slice pw0_0 r.xMirrors.length cw0_0]) r bw0_0 ∧ OwMirror V (.agg #[.int .i64 x0.xQ, .slice px0c_0 x0.xViews.length cx0c_0]) x0 bx0c_0 ∧ OwManyBits V (.agg #[.int .i64 r.xCode, .slice pg0_0 r.xMirrors.length cg0_0]) r bg0_0 ∧ OwMirror V (.agg #[.int .i64 x0.xQ, .slice py0_0 x0.xViews.length cy0_0]) x0 by0_0) ?_ ?_; (first | exact ⟨X0, Yw0, Z0, Yg0, B, w0, x0c, g0, y0⟩ | exact ⟨X0.drew, Yw0.drew, Z0.drew, Yg0.drew, B.drew, w0.drew, x0c.drew, g0.drew, y0.drew⟩); clear hS X0 Yw0 Z0 Yg0 B w0 x0c g0 y0; rintro V17 ⟨X0, Yw0, Z0, Yg0, B, w0, x0c, g0, y0⟩; refine (eqMirror_rd _ _ x0 _ (by exact x0c.rd) (by exact y0.rd)).mono ?_; rintro e w18 ⟨rfl, hb18⟩; replace X0 := X0.keep hb18; replace Yw0 := Yw0.keep hb18; replace Z0 := Z0.keep hb18; replace Yg0 := Yg0.keep hb18; replace w0 := w0.keep hb18; replace x0c := x0c.keep hb18; replace g0 := g0.keep hb18; replace y0 := y0.keep hb18; replace B := B.trans (hb18.mono B.size); have hS := (show (∀ o, w18.cell? ⟨w10.heap.size, o, none⟩ = (#[.int .i64 x0.xQ, .slice px0c_0 x0.xViews.length cx0c_0] : Array Value)[o]?) ∧ (∀ o, w18.cell? ⟨w.heap.size, o, none⟩ = (#[.int .i64 x0.xQ, .slice p0_0 x0.xViews.length c0_0] : Array Value)[o]?) from ⟨Z0.at.1, X0.at.1⟩)))
  clear hS
  clear y0 G_y0
  have X0a := X0.at.1
  have X0l := X0.lt
  have Yw0a := Yw0.at.1
  have Yw0l := Yw0.lt
  have Z0a := Z0.at.1
  have Z0l := Z0.lt
  have Yg0a := Yg0.at.1
  have Yg0l := Yg0.lt
  go_wp2_with fail
  clear X0a X0l Yw0a Yw0l Z0a Z0l Yg0a Yg0l
  refine Calls.at (F := fun V => Blk V (w.heap.size) 24 #[.int .i64 x0.xQ, .slice p0_0 x0.xViews.length c0_0] ∧ Blk V (w8.heap.size) 28 #[.int .i64 r.xCode, .slice pw0_0 r.xMirrors.length cw0_0] ∧ Blk V (w10.heap.size) 30 #[.int .i64 x0.xQ, .slice px0c_0 x0.xViews.length cx0c_0] ∧ Blk V (w12.heap.size) 28 #[.int .i64 r.xCode, .slice pg0_0 r.xMirrors.length cg0_0] ∧ Below w.heap.size w V ∧ OwManyBits V (.agg #[.int .i64 r.xCode, .slice pw0_0 r.xMirrors.length cw0_0]) r bw0_0 ∧ OwMirror V (.agg #[.int .i64 x0.xQ, .slice px0c_0 x0.xViews.length cx0c_0]) x0 bx0c_0 ∧ OwManyBits V (.agg #[.int .i64 r.xCode, .slice pg0_0 r.xMirrors.length cg0_0]) r bg0_0) ⟨X0, Yw0, Z0, Yg0, B, w0, x0c, g0⟩ ?_
  clear X0 Yw0 Z0 Yg0 B w0 x0c g0
  rintro V19 ⟨X0, Yw0, Z0, Yg0, B, w0, x0c, g0⟩
  refine (markMirror_ow _ x0 bx0c_0 _ _ (by exact x0c) (by omega) (by omega)).mono ?_
  rintro e w20 ⟨rfl, mm, oo⟩
  replace X0 := X0.off oo nb_X0_x0c
  replace Yw0 := Yw0.off oo nb_Yw0_x0c
  replace Z0 := Z0.off oo nb_Z0_x0c
  replace Yg0 := Yg0.off oo nb_Yg0_x0c
  replace w0 := w0.off oo dj_w0_x0c
  replace g0 := g0.off oo dj_x0c_g0.symm
  replace B := B.trans (oo.toBelow B.size G_x0c)
  clear x0c
  have x0c := mm
  clear mm
  have X0a := X0.at.1
  have X0l := X0.lt
  have Yw0a := Yw0.at.1
  have Yw0l := Yw0.lt
  have Z0a := Z0.at.1
  have Z0l := Z0.lt
  have Yg0a := Yg0.at.1
  have Yg0l := Yg0.lt
  go_wp2_with fail
  clear X0a X0l Yw0a Yw0l Z0a Z0l Yg0a Yg0l
  refine Calls.at (F := fun V => Blk V (w.heap.size) 24 #[.int .i64 x0.xQ, .slice p0_0 x0.xViews.length c0_0] ∧ Blk V (w8.heap.size) 28 #[.int .i64 r.xCode, .slice pw0_0 r.xMirrors.length cw0_0] ∧ Blk V (w10.heap.size) 30 #[.int .i64 x0.xQ, .slice px0c_0 x0.xViews.length cx0c_0] ∧ Blk V (w12.heap.size) 28 #[.int .i64 r.xCode, .slice pg0_0 r.xMirrors.length cg0_0] ∧ Below w.heap.size w V ∧ OwManyBits V (.agg #[.int .i64 r.xCode, .slice pw0_0 r.xMirrors.length cw0_0]) r bw0_0 ∧ OwMirror V (.agg #[.int .i64 x0.xQ, .slice px0c_0 x0.xViews.length cx0c_0]) (mkMirror 1 x0) bx0c_0 ∧ OwManyBits V (.agg #[.int .i64 r.xCode, .slice pg0_0 r.xMirrors.length cg0_0]) r bg0_0) ⟨X0, Yw0, Z0, Yg0, B, w0, x0c, g0⟩ ?_
  clear X0 Yw0 Z0 Yg0 B w0 x0c g0
  rintro V21 ⟨X0, Yw0, Z0, Yg0, B, w0, x0c, g0⟩
  refine (eqManyBits_rd _ _ r _ (by exact g0.rd) (by exact w0.rd)).mono ?_
  rintro e w22 ⟨rfl, hb22⟩
  replace X0 := X0.keep hb22
  replace Yw0 := Yw0.keep hb22
  replace Z0 := Z0.keep hb22
  replace Yg0 := Yg0.keep hb22
  replace w0 := w0.keep hb22
  replace x0c := x0c.keep hb22
  replace g0 := g0.keep hb22
  replace B := B.trans (hb22.mono B.size)
  have X0a := X0.at.1
  have X0l := X0.lt
  have Yw0a := Yw0.at.1
  have Yw0l := Yw0.lt
  have Z0a := Z0.at.1
  have Z0l := Z0.lt
  have Yg0a := Yg0.at.1
  have Yg0l := Yg0.lt
  go_wp2_with fail
  clear X0a X0l Yw0a Yw0l Z0a Z0l Yg0a Yg0l
  refine Calls.at (F := fun V => Blk V (w.heap.size) 24 #[.int .i64 x0.xQ, .slice p0_0 x0.xViews.length c0_0] ∧ Blk V (w8.heap.size) 28 #[.int .i64 r.xCode, .slice pw0_0 r.xMirrors.length cw0_0] ∧ Blk V (w10.heap.size) 30 #[.int .i64 x0.xQ, .slice px0c_0 x0.xViews.length cx0c_0] ∧ Blk V (w12.heap.size) 28 #[.int .i64 r.xCode, .slice pg0_0 r.xMirrors.length cg0_0] ∧ Below w.heap.size w V ∧ OwManyBits V (.agg #[.int .i64 r.xCode, .slice pw0_0 r.xMirrors.length cw0_0]) r bw0_0 ∧ OwMirror V (.agg #[.int .i64 x0.xQ, .slice px0c_0 x0.xViews.length cx0c_0]) (mkMirror 1 x0) bx0c_0 ∧ OwManyBits V (.agg #[.int .i64 r.xCode, .slice pg0_0 r.xMirrors.length cg0_0]) r bg0_0) ⟨X0, Yw0, Z0, Yg0, B, w0, x0c, g0⟩ ?_
  clear X0 Yw0 Z0 Yg0 B w0 x0c g0
  rintro V23 ⟨X0, Yw0, Z0, Yg0, B, w0, x0c, g0⟩
  refine (markManyBits_ow _ r bg0_0 _ _ (by exact g0) (by omega) (by omega)).mono ?_
  rintro e w24 ⟨rfl, mm, oo⟩
  replace X0 := X0.off oo nb_X0_g0
  replace Yw0 := Yw0.off oo nb_Yw0_g0
  replace Z0 := Z0.off oo nb_Z0_g0
  replace Yg0 := Yg0.off oo nb_Yg0_g0
  replace w0 := w0.off oo dj_w0_g0
  replace x0c := x0c.off oo dj_x0c_g0
  replace B := B.trans (oo.toBelow B.size G_g0)
  clear g0
  have g0 := mm
  clear mm
  have X0a := X0.at.1
  have X0l := X0.lt
  have Yw0a := Yw0.at.1
  have Yw0l := Yw0.lt
  have Z0a := Z0.at.1
  have Z0l := Z0.lt
  have Yg0a := Yg0.at.1
  have Yg0l := Yg0.lt
  go_wp2_with fail
  clear X0a X0l Yw0a Yw0l Z0a Z0l Yg0a Yg0l
  refine Calls.at (F := fun V => Blk V (w.heap.size) 24 #[.int .i64 x0.xQ, .slice p0_0 x0.xViews.length c0_0] ∧ Blk V (w8.heap.size) 28 #[.int .i64 r.xCode, .slice pw0_0 r.xMirrors.length cw0_0] ∧ Blk V (w10.heap.size) 30 #[.int .i64 x0.xQ, .slice px0c_0 x0.xViews.length cx0c_0] ∧ Blk V (w12.heap.size) 28 #[.int .i64 r.xCode, .slice pg0_0 r.xMirrors.length cg0_0] ∧ Below w.heap.size w V ∧ OwManyBits V (.agg #[.int .i64 r.xCode, .slice pw0_0 r.xMirrors.length cw0_0]) r bw0_0 ∧ OwMirror V (.agg #[.int .i64 x0.xQ, .slice px0c_0 x0.xViews.length cx0c_0]) (mkMirror 1 x0) bx0c_0 ∧ OwManyBits V (.agg #[.int .i64 r.xCode, .slice pg0_0 r.xMirrors.length cg0_0]) (mkManyBits 1 r) bg0_0) ⟨X0, Yw0, Z0, Yg0, B, w0, x0c, g0⟩ ?_
  clear X0 Yw0 Z0 Yg0 B w0 x0c g0
  rintro V25 ⟨X0, Yw0, Z0, Yg0, B, w0, x0c, g0⟩
  refine (heldManyBits_rd _ r _ _ (by exact g0.rd) (by omega) (by omega)).mono ?_
  rintro e w26 ⟨rfl, hb26⟩
  replace X0 := X0.keep hb26
  replace Yw0 := Yw0.keep hb26
  replace Z0 := Z0.keep hb26
  replace Yg0 := Yg0.keep hb26
  replace w0 := w0.keep hb26
  replace x0c := x0c.keep hb26
  replace g0 := g0.keep hb26
  replace B := B.trans (hb26.mono B.size)
  have X0a := X0.at.1
  have X0l := X0.lt
  have Yw0a := Yw0.at.1
  have Yw0l := Yw0.lt
  have Z0a := Z0.at.1
  have Z0l := Z0.lt
  have Yg0a := Yg0.at.1
  have Yg0l := Yg0.lt
  go_wp2_with fail
  clear X0a X0l Yw0a Yw0l Z0a Z0l Yg0a Yg0l
  refine Calls.at (F := fun V => Blk V (w.heap.size) 24 #[.int .i64 x0.xQ, .slice p0_0 x0.xViews.length c0_0] ∧ Blk V (w8.heap.size) 28 #[.int .i64 r.xCode, .slice pw0_0 r.xMirrors.length cw0_0] ∧ Blk V (w10.heap.size) 30 #[.int .i64 x0.xQ, .slice px0c_0 x0.xViews.length cx0c_0] ∧ Blk V (w12.heap.size) 28 #[.int .i64 r.xCode, .slice pg0_0 r.xMirrors.length cg0_0] ∧ Below w.heap.size w V ∧ OwManyBits V (.agg #[.int .i64 r.xCode, .slice pw0_0 r.xMirrors.length cw0_0]) r bw0_0 ∧ OwMirror V (.agg #[.int .i64 x0.xQ, .slice px0c_0 x0.xViews.length cx0c_0]) (mkMirror 1 x0) bx0c_0 ∧ OwManyBits V (.agg #[.int .i64 r.xCode, .slice pg0_0 r.xMirrors.length cg0_0]) (mkManyBits 1 r) bg0_0) ⟨X0, Yw0, Z0, Yg0, B, w0, x0c, g0⟩ ?_
  clear X0 Yw0 Z0 Yg0 B w0 x0c g0
  rintro V27 ⟨X0, Yw0, Z0, Yg0, B, w0, x0c, g0⟩
  refine (toMirror_ow _ x0 _ (by exact r0.below B) (by omega)).mono ?_
  rintro e w28 ⟨u, bh0a0_0, rfl, h0a0, fh0a0_0, hb28⟩
  obtain ⟨ph0a0_0, ch0a0_0, rfl⟩ := h0a0.shp
  have F_h0a0 : ∀ y ∈ bh0a0_0, V27.heap.size ≤ y := fh0a0_0
  have dj_w0_h0a0 : Dj bw0_0 bh0a0_0 := fun y hy hm => Nat.not_lt.2 (F_h0a0 y hm) (w0.lt y hy)
  have dj_x0c_h0a0 : Dj bx0c_0 bh0a0_0 := fun y hy hm => Nat.not_lt.2 (F_h0a0 y hm) (x0c.lt y hy)
  have dj_g0_h0a0 : Dj bg0_0 bh0a0_0 := fun y hy hm => Nat.not_lt.2 (F_h0a0 y hm) (g0.lt y hy)
  have nb_X0_h0a0 : w.heap.size ∉ bh0a0_0 := fun hm => Nat.not_lt.2 (F_h0a0 _ hm) X0.lt
  have nb_Yw0_h0a0 : w8.heap.size ∉ bh0a0_0 := fun hm => Nat.not_lt.2 (F_h0a0 _ hm) Yw0.lt
  have nb_Z0_h0a0 : w10.heap.size ∉ bh0a0_0 := fun hm => Nat.not_lt.2 (F_h0a0 _ hm) Z0.lt
  have nb_Yg0_h0a0 : w12.heap.size ∉ bh0a0_0 := fun hm => Nat.not_lt.2 (F_h0a0 _ hm) Yg0.lt
  have G_h0a0 : ∀ y ∈ bh0a0_0, w.heap.size ≤ y := fun y hy => Nat.le_trans B.size (F_h0a0 y hy)
  clear F_h0a0
  replace X0 := X0.keep hb28
  replace Yw0 := Yw0.keep hb28
  replace Z0 := Z0.keep hb28
  replace Yg0 := Yg0.keep hb28
  replace w0 := w0.keep hb28
  replace x0c := x0c.keep hb28
  replace g0 := g0.keep hb28
  replace B := B.trans (hb28.mono B.size)
  have X0a := X0.at.1
  have X0l := X0.lt
  have Yw0a := Yw0.at.1
  have Yw0l := Yw0.lt
  have Z0a := Z0.at.1
  have Z0l := Z0.lt
  have Yg0a := Yg0.at.1
  have Yg0l := Yg0.lt
  go_wp2_with fail
  clear X0a X0l Yw0a Yw0l Z0a Z0l Yg0a Yg0l
  refine Calls.at (F := fun V => Blk V (w.heap.size) 24 #[.int .i64 x0.xQ, .slice p0_0 x0.xViews.length c0_0] ∧ Blk V (w8.heap.size) 28 #[.int .i64 r.xCode, .slice pw0_0 r.xMirrors.length cw0_0] ∧ Blk V (w10.heap.size) 30 #[.int .i64 x0.xQ, .slice px0c_0 x0.xViews.length cx0c_0] ∧ Blk V (w12.heap.size) 28 #[.int .i64 r.xCode, .slice pg0_0 r.xMirrors.length cg0_0] ∧ Below w.heap.size w V ∧ OwManyBits V (.agg #[.int .i64 r.xCode, .slice pw0_0 r.xMirrors.length cw0_0]) r bw0_0 ∧ OwMirror V (.agg #[.int .i64 x0.xQ, .slice px0c_0 x0.xViews.length cx0c_0]) (mkMirror 1 x0) bx0c_0 ∧ OwManyBits V (.agg #[.int .i64 r.xCode, .slice pg0_0 r.xMirrors.length cg0_0]) (mkManyBits 1 r) bg0_0 ∧ OwMirror V (.agg #[.int .i64 x0.xQ, .slice ph0a0_0 x0.xViews.length ch0a0_0]) x0 bh0a0_0) ⟨X0, Yw0, Z0, Yg0, B, w0, x0c, g0, h0a0⟩ ?_
  clear X0 Yw0 Z0 Yg0 B w0 x0c g0 h0a0
  rintro V29 ⟨X0, Yw0, Z0, Yg0, B, w0, x0c, g0, h0a0⟩
  refine (HI.out _ _ (by exact h0a0.rd)).mono ?_
  rintro e w30 ⟨u, bh0_0, rfl, h0, fh0_0, hb30⟩
  obtain ⟨ph0_0, ch0_0, rfl⟩ := h0.shp
  have F_h0 : ∀ y ∈ bh0_0, V29.heap.size ≤ y := fh0_0
  have dj_w0_h0 : Dj bw0_0 bh0_0 := fun y hy hm => Nat.not_lt.2 (F_h0 y hm) (w0.lt y hy)
  have dj_x0c_h0 : Dj bx0c_0 bh0_0 := fun y hy hm => Nat.not_lt.2 (F_h0 y hm) (x0c.lt y hy)
  have dj_g0_h0 : Dj bg0_0 bh0_0 := fun y hy hm => Nat.not_lt.2 (F_h0 y hm) (g0.lt y hy)
  have dj_h0a0_h0 : Dj bh0a0_0 bh0_0 := fun y hy hm => Nat.not_lt.2 (F_h0 y hm) (h0a0.lt y hy)
  have nb_X0_h0 : w.heap.size ∉ bh0_0 := fun hm => Nat.not_lt.2 (F_h0 _ hm) X0.lt
  have nb_Yw0_h0 : w8.heap.size ∉ bh0_0 := fun hm => Nat.not_lt.2 (F_h0 _ hm) Yw0.lt
  have nb_Z0_h0 : w10.heap.size ∉ bh0_0 := fun hm => Nat.not_lt.2 (F_h0 _ hm) Z0.lt
  have nb_Yg0_h0 : w12.heap.size ∉ bh0_0 := fun hm => Nat.not_lt.2 (F_h0 _ hm) Yg0.lt
  have G_h0 : ∀ y ∈ bh0_0, w.heap.size ≤ y := fun y hy => Nat.le_trans B.size (F_h0 y hy)
  clear F_h0
  replace X0 := X0.keep hb30
  replace Yw0 := Yw0.keep hb30
  replace Z0 := Z0.keep hb30
  replace Yg0 := Yg0.keep hb30
  replace w0 := w0.keep hb30
  replace x0c := x0c.keep hb30
  replace g0 := g0.keep hb30
  replace h0a0 := h0a0.keep hb30
  replace B := B.trans (hb30.mono B.size)
  clear h0a0 G_h0a0
  have X0a := X0.at.1
  have X0l := X0.lt
  have Yw0a := Yw0.at.1
  have Yw0l := Yw0.lt
  have Z0a := Z0.at.1
  have Z0l := Z0.lt
  have Yg0a := Yg0.at.1
  have Yg0l := Yg0.lt
  go_wp2_with fail
  clear X0a X0l Yw0a Yw0l Z0a Z0l Yg0a Yg0l
  have nb_Yh0_w0 : w30.heap.size ∉ bw0_0 := fun hm => Nat.lt_irrefl _ (w0.lt _ hm)
  have nb_Yh0_x0c : w30.heap.size ∉ bx0c_0 := fun hm => Nat.lt_irrefl _ (x0c.lt _ hm)
  have nb_Yh0_g0 : w30.heap.size ∉ bg0_0 := fun hm => Nat.lt_irrefl _ (g0.lt _ hm)
  have nb_Yh0_h0 : w30.heap.size ∉ bh0_0 := fun hm => Nat.lt_irrefl _ (h0.lt _ hm)
  refine Calls.at (F := fun V => Blk V (w.heap.size) 24 #[.int .i64 x0.xQ, .slice p0_0 x0.xViews.length c0_0] ∧ Blk V (w8.heap.size) 28 #[.int .i64 r.xCode, .slice pw0_0 r.xMirrors.length cw0_0] ∧ Blk V (w10.heap.size) 30 #[.int .i64 x0.xQ, .slice px0c_0 x0.xViews.length cx0c_0] ∧ Blk V (w12.heap.size) 28 #[.int .i64 r.xCode, .slice pg0_0 r.xMirrors.length cg0_0] ∧ Blk V (w30.heap.size) 28 #[.int .i64 r.xCode, .slice ph0_0 r.xMirrors.length ch0_0] ∧ Below w.heap.size w V ∧ OwManyBits V (.agg #[.int .i64 r.xCode, .slice pw0_0 r.xMirrors.length cw0_0]) r bw0_0 ∧ OwMirror V (.agg #[.int .i64 x0.xQ, .slice px0c_0 x0.xViews.length cx0c_0]) (mkMirror 1 x0) bx0c_0 ∧ OwManyBits V (.agg #[.int .i64 r.xCode, .slice pg0_0 r.xMirrors.length cg0_0]) (mkManyBits 1 r) bg0_0 ∧ OwManyBits V (.agg #[.int .i64 r.xCode, .slice ph0_0 r.xMirrors.length ch0_0]) r bh0_0) ⟨X0.alloc _, Yw0.alloc _, Z0.alloc _, Yg0.alloc _, Blk.new _ _ _, B.alloc B.size _, w0.alloc _, x0c.alloc _, g0.alloc _, h0.alloc _⟩ ?_
  clear X0 Yw0 Z0 Yg0 B w0 x0c g0 h0
  rintro V31 ⟨X0, Yw0, Z0, Yg0, Yh0, B, w0, x0c, g0, h0⟩
  refine (eqManyBits_rd _ _ r _ (by exact h0.rd) (by exact w0.rd)).mono ?_
  rintro e w32 ⟨rfl, hb32⟩
  replace X0 := X0.keep hb32
  replace Yw0 := Yw0.keep hb32
  replace Z0 := Z0.keep hb32
  replace Yg0 := Yg0.keep hb32
  replace Yh0 := Yh0.keep hb32
  replace w0 := w0.keep hb32
  replace x0c := x0c.keep hb32
  replace g0 := g0.keep hb32
  replace h0 := h0.keep hb32
  replace B := B.trans (hb32.mono B.size)
  have X0a := X0.at.1
  have X0l := X0.lt
  have Yw0a := Yw0.at.1
  have Yw0l := Yw0.lt
  have Z0a := Z0.at.1
  have Z0l := Z0.lt
  have Yg0a := Yg0.at.1
  have Yg0l := Yg0.lt
  have Yh0a := Yh0.at.1
  have Yh0l := Yh0.lt
  go_wp2_with fail
  clear X0a X0l Yw0a Yw0l Z0a Z0l Yg0a Yg0l Yh0a Yh0l
  refine Calls.at (F := fun V => Blk V (w.heap.size) 24 #[.int .i64 x0.xQ, .slice p0_0 x0.xViews.length c0_0] ∧ Blk V (w8.heap.size) 28 #[.int .i64 r.xCode, .slice pw0_0 r.xMirrors.length cw0_0] ∧ Blk V (w10.heap.size) 30 #[.int .i64 x0.xQ, .slice px0c_0 x0.xViews.length cx0c_0] ∧ Blk V (w12.heap.size) 28 #[.int .i64 r.xCode, .slice pg0_0 r.xMirrors.length cg0_0] ∧ Blk V (w30.heap.size) 28 #[.int .i64 r.xCode, .slice ph0_0 r.xMirrors.length ch0_0] ∧ Below w.heap.size w V ∧ OwManyBits V (.agg #[.int .i64 r.xCode, .slice pw0_0 r.xMirrors.length cw0_0]) r bw0_0 ∧ OwMirror V (.agg #[.int .i64 x0.xQ, .slice px0c_0 x0.xViews.length cx0c_0]) (mkMirror 1 x0) bx0c_0 ∧ OwManyBits V (.agg #[.int .i64 r.xCode, .slice pg0_0 r.xMirrors.length cg0_0]) (mkManyBits 1 r) bg0_0 ∧ OwManyBits V (.agg #[.int .i64 r.xCode, .slice ph0_0 r.xMirrors.length ch0_0]) r bh0_0) ⟨X0, Yw0, Z0, Yg0, Yh0, B, w0, x0c, g0, h0⟩ ?_
  clear X0 Yw0 Z0 Yg0 Yh0 B w0 x0c g0 h0
  rintro V33 ⟨X0, Yw0, Z0, Yg0, Yh0, B, w0, x0c, g0, h0⟩
  refine (heldManyBits_rd _ r _ _ (by exact g0.rd) (by omega) (by omega)).mono ?_
  rintro e w34 ⟨rfl, hb34⟩
  replace X0 := X0.keep hb34
  replace Yw0 := Yw0.keep hb34
  replace Z0 := Z0.keep hb34
  replace Yg0 := Yg0.keep hb34
  replace Yh0 := Yh0.keep hb34
  replace w0 := w0.keep hb34
  replace x0c := x0c.keep hb34
  replace g0 := g0.keep hb34
  replace h0 := h0.keep hb34
  replace B := B.trans (hb34.mono B.size)
  have X0a := X0.at.1
  have X0l := X0.lt
  have Yw0a := Yw0.at.1
  have Yw0l := Yw0.lt
  have Z0a := Z0.at.1
  have Z0l := Z0.lt
  have Yg0a := Yg0.at.1
  have Yg0l := Yg0.lt
  have Yh0a := Yh0.at.1
  have Yh0l := Yh0.lt
  go_wp2
  go_ret
  exact ⟨rfl, B⟩
/-! the row's step -/
set_option maxRecDepth 100000 in
theorem lifted (os : Os) (started : os.Started) (H : Type) (enc : TypeId × Value → H) :
    ReturnsInHanded {} Try.checked os 3 .any (Rows.fnExactPartBitsSpec.pre6 enc Try.prog Try.f3 Rows.fnExactPartBitsRow.domain false) (Rows.fnExactPartBitsSpec.post enc Try.prog Try.f3 false true false false) := by
  refine returnsInHanded_of_change (C := Try.checked) own started (by kernel_rfl) Try.func3
    (ChangeSpec.witness6 (enc := enc) (C := Try.checked) false ⟨#[], #[.agg #[.int .i64 0, .slice none 0 0], .int .i64 0], []⟩ 8 (by kernel_rfl) (by kernel_rfl) (by kernel_rfl) (by kernel_rfl)) ?_
  intro W base args ds gs before hval0 hW hcnd _
  have hval : ∀ (j : Nat) t v, Try.f3.params[j]? = some t → args[j]? = some v → Value.okWide Try.prog W .any base t v := hval0
  have hW' := hW
  obtain ⟨p, q, hA0, hV, rfl, hfz, hnd⟩ := hW
  have hA : DataW.TrodAll enc Try.prog W 0 (fun _ => true) true Try.f3.params.toList args.toList ds p := hA0
  rw [Try.params3] at hA hval
  obtain ⟨v0, vs0, d0, ds0, p0, q0, hargs, rfl, rfl, h0, r0⟩ := trodAll_cons hA
  obtain ⟨v1, vs1, d1, ds1, p1, q1, rfl, rfl, rfl, h1, r1⟩ := trodAll_cons r0
  obtain ⟨rfl, rfl, rfl⟩ := trodAll_nil r1
  obtain rfl : args = #[v0, v1] := by cases args; simp_all
  obtain ⟨rfl, rfl⟩ := trodVars_none hV
  have k0 := h0
  have lt0 : ∀ x ∈ p0, x.block < W.heap.size := by obtain ⟨m, hm⟩ := k0; exact DataW.trod_lt m _ _ _ hm
  obtain ⟨cs0, rfl, _⟩ := okWide_struct Try.underlying24 (hval 0 24 v0 rfl rfl)
  obtain ⟨x0, w0⟩ : ∃ y, RdMirror W (.agg cs0) y := by
    obtain ⟨fuel, hf⟩ := h0
    obtain ⟨y, q⟩ := open_Mirror hf
    exact ⟨y, by simpa [Value.cells] using q⟩
  obtain ⟨a1, rfl, rfl, rfl, w1⟩ := open_int Try.underlying2 (hval 1 2 v1 rfl rfl) h1
  clear hA0 hval0
  refine (walk _ x0 a1 W w0 w1).mono fun e W' ⟨he, bel⟩ => ?_
  subst he
  exact ⟨_, rfl, _, _, _, [], _, [], hW', trodAll_mk1 (shut_bool Try.underlying4 _), (trodAll_cons_mk (Below.trod laidOut (by kernel_rfl) (of_decide_eq_true (by kernel_rfl)) k0 bel lt0) (trodAll_cons_mk (shut_int Try.underlying2 w1) trodAll_mk0)), rfl, bel.frame _, fun h => by cases h⟩

theorem over : Rows.fnExactPartBitsRow.holds Try.pinned (OpenSpec.ofChange Rows.fnExactPartBitsSpec) :=
  OpenClaim.holds_of_wide 3 Try.f3 rfl rfl rfl rfl rfl rfl rfl ⟨rfl, rfl, rfl, rfl, rfl⟩ rfl rfl rfl rfl rfl (by kernel_rfl) Try.func3 (by kernel_rfl)
    (of_decide_eq_true (by kernel_rfl)) (by unfold Func.isWrapper; first | (rw [if_pos (by decide +kernel)]; kernel_rfl) | (rw [if_neg (by decide +kernel)]; exact ⟨rfl, rfl⟩))
    (fun os started H enc _ => lifted os started H enc)

end Go.Proofs.Ytepobckhfodngan.fnExactPartBits
namespace Go.Proofs.Ytepobckhfodngan
theorem fnExactPartBits_holds : Rows.FnExactPartBitsSaid := fnExactPartBits.over
#print axioms fnExactPartBits_holds
end Go.Proofs.Ytepobckhfodngan
