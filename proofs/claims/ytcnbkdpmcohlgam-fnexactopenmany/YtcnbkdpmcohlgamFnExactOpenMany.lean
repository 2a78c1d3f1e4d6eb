/-
  FnExactOpenMany answers true at every list of mirrors and all whole numbers: the program's OpenMany answers as its model does, writes into no argument, and each answer owns its memory.
-/
import Derived.Test.YtcnbkdpmcohlgamOpenS
import Derived.Test.YtcnbkdpmcohlgamMrT
import Derived.Test.YtcnbkdpmcohlgamOpM
import Derived.Test.YtcnbkdpmcohlgamOpen
import Derived.Deep.RegionHeld3
import Derived.Deep.CutRange
import Derived.Deep.Cut
import Derived.Deep.RegionWith
import Derived.ShutString
import Derived.ChangeOld
import Derived.Below
namespace Go.Proofs.Ytcnbkdpmcohlgam.fnExactOpenMany
open Go.ChangeShapes Go.WideShapes Go.ChangeAt Go.RowKit
open Go.ChangeMaps (open_string shut_string)
set_option linter.unusedVariables false

theorem own : ownKnob Try.prog.godebug = none := by kernel_rfl
theorem laidOut : laidOutB Try.prog = true := by kernel_rfl

set_option maxHeartbeats 4000000 in
set_option maxRecDepth 100000 in
theorem walk (v0 : Value) (x0 : List MMirror) (a1 : Int) (a2 : Int) (w : World) (r0 : RdMirrorS w (v0) x0) (w1 : (Lit.int .i64 a1).wf = true) (w2 : (Lit.int .i64 a2).wf = true) :
    Calls Try.prog 6 #[v0, .int .i64 a1, .int .i64 a2] w fun e w' => e = .returned (.bool true) ∧ Below w.heap.size w w' := by
  obtain ⟨p0_0, c0_0, hv0⟩ : ∃ p c, v0 = .slice p x0.length c := RdMirrorS.shp r0
  subst hv0
  by_cases s0 : (1048576 : Int) < (totMirrorS x0 : Nat)
  · skip
    go_enter Try.func6, Try.ntmps6
    go_wp2_with fail
    refine Calls.at (F := fun V => Below w.heap.size w V) (Below.refl _ _) ?_
    rintro V1 B
    refine (szMirrorS_over _ x0 _ _ (by exact r0.below B) (by omega) (by omega) (by omega)).mono ?_
    rintro e w2 ⟨rfl, hb2⟩
    replace B := B.trans (hb2.mono B.size)
    go_wp2
    go_ret
    exact ⟨rfl, B⟩
  have hc0 := cntMirrorS_le x0
  have KS : ∀ (V : World) (u0 : Value), RdMirrorS V (u0) x0 → Calls Try.prog 28 #[u0, .int .i64 a1, .int .i64 a2] V fun e V' => ∃ u b0, e = .returned u ∧ OwTableResult V' (u) (openManyR x0 a1 a2) b0 ∧ (∀ y ∈ b0, V.heap.size ≤ y) ∧ Below V.heap.size V V' := fun V u0 h => spec_OpenMany _ _ _ _ _ h
  have KI : ∀ (V : World) (u0 : Value), RdMirrorS V (u0) x0 → Calls Try.prog 29 #[u0, .int .i64 a1, .int .i64 a2] V fun e V' => ∃ u b0, e = .returned u ∧ OwTableResult V' (u) (openManyR x0 a1 a2) b0 ∧ (∀ y ∈ b0, V.heap.size ≤ y) ∧ Below V.heap.size V V' := fun V u0 h => impl_OpenMany _ _ _ _ _ h
  obtain ⟨r, HS, HI, hcr⟩ : ∃ r : MTableResult, Hid (∀ (V : World) (u0 : Value), RdMirrorS V (u0) x0 → Calls Try.prog 28 #[u0, .int .i64 a1, .int .i64 a2] V fun e V' => ∃ u b0, e = .returned u ∧ OwTableResult V' (u) r b0 ∧ (∀ y ∈ b0, V.heap.size ≤ y) ∧ Below V.heap.size V V') ∧ Hid (∀ (V : World) (u0 : Value), RdMirrorS V (u0) x0 → Calls Try.prog 29 #[u0, .int .i64 a1, .int .i64 a2] V fun e V' => ∃ u b0, e = .returned u ∧ OwTableResult V' (u) r b0 ∧ (∀ y ∈ b0, V.heap.size ≤ y) ∧ Below V.heap.size V V') ∧ cntTableResult r ≤ 268435456 := ⟨openManyR x0 a1 a2, KS, KI, openManyR_cnt x0 a1 a2⟩
  clear KS KI
  go_enter Try.func6, Try.ntmps6
  go_wp2_with fail
  refine Calls.at (F := fun V => Below w.heap.size w V) (Below.refl _ _) ?_
  rintro V3 B
  refine (szMirrorS_fit _ x0 _ _ (by exact r0.below B) (by omega) (by omega) (by omega)).mono ?_
  rintro e w4 ⟨rfl, hb4⟩
  replace B := B.trans (hb4.mono B.size)
  go_wp2_with fail
  refine Calls.at (F := fun V => Below w.heap.size w V) B ?_
  clear B
  rintro V5 B
  refine (toMirrorS_ow _ x0 _ (by exact r0.below B) (by omega)).mono ?_
  rintro e w6 ⟨u, bw0a0_0, rfl, w0a0, fw0a0_0, hb6⟩
  obtain ⟨pw0a0_0, cw0a0_0, rfl⟩ := OwMirrorS.value w0a0
  have F_w0a0 : ∀ y ∈ bw0a0_0, V5.heap.size ≤ y := fw0a0_0
  have G_w0a0 : ∀ y ∈ bw0a0_0, w.heap.size ≤ y := fun y hy => Nat.le_trans B.size (F_w0a0 y hy)
  clear F_w0a0
  replace B := B.trans (hb6.mono B.size)
  go_wp2_with fail
  refine Calls.at (F := fun V => Below w.heap.size w V ∧ OwMirrorS V (.slice pw0a0_0 x0.length cw0a0_0) x0 bw0a0_0) ⟨B, w0a0⟩ ?_
  clear B w0a0
  rintro V7 ⟨B, w0a0⟩
  refine (HS.out _ _ (by exact OwMirrorS.reads w0a0)).mono ?_
  rintro e w8 ⟨u, bw0_0, rfl, w0, fw0_0, hb8⟩
  obtain ⟨pw0_0, cw0_0, rfl⟩ := w0.shp
  have F_w0 : ∀ y ∈ bw0_0, V7.heap.size ≤ y := fw0_0
  have dj_w0a0_w0 : Dj bw0a0_0 bw0_0 := fun y hy hm => Nat.not_lt.2 (F_w0 y hm) (w0a0.lt y hy)
  have G_w0 : ∀ y ∈ bw0_0, w.heap.size ≤ y := fun y hy => Nat.le_trans B.size (F_w0 y hy)
  clear F_w0
  replace w0a0 := w0a0.keep hb8
  replace B := B.trans (hb8.mono B.size)
  clear w0a0 G_w0a0
  go_wp2_with fail
  have nb_Yw0_w0 : w8.heap.size ∉ bw0_0 := fun hm => Nat.lt_irrefl _ (w0.lt _ hm)
  refine Calls.at (F := fun V => Blk V (w8.heap.size) 55 #[.int .i64 r.xCode, .slice pw0_0 r.xRows.length cw0_0] ∧ Below w.heap.size w V ∧ OwTableResult V (.agg #[.int .i64 r.xCode, .slice pw0_0 r.xRows.length cw0_0]) r bw0_0) ⟨Blk.new _ _ _, B.alloc B.size _, w0.alloc _⟩ ?_
  clear B w0
  rintro V9 ⟨Yw0, B, w0⟩
  refine (toMirrorS_ow _ x0 _ (by exact r0.below B) (by omega)).mono ?_
  rintro e w10 ⟨u, bx0c_0, rfl, x0c, fx0c_0, hb10⟩
  obtain ⟨px0c_0, cx0c_0, rfl⟩ := OwMirrorS.value x0c
  have F_x0c : ∀ y ∈ bx0c_0, V9.heap.size ≤ y := fx0c_0
  have dj_w0_x0c : Dj bw0_0 bx0c_0 := fun y hy hm => Nat.not_lt.2 (F_x0c y hm) (w0.lt y hy)
  have nb_Yw0_x0c : w8.heap.size ∉ bx0c_0 := fun hm => Nat.not_lt.2 (F_x0c _ hm) Yw0.lt
  have G_x0c : ∀ y ∈ bx0c_0, w.heap.size ≤ y := fun y hy => Nat.le_trans B.size (F_x0c y hy)
  clear F_x0c
  replace Yw0 := Yw0.keep hb10
  replace w0 := w0.keep hb10
  replace B := B.trans (hb10.mono B.size)
  have Yw0a := Yw0.at.1
  have Yw0l := Yw0.lt
  go_wp2_with fail
  clear Yw0a Yw0l
  refine Calls.at (F := fun V => Blk V (w8.heap.size) 55 #[.int .i64 r.xCode, .slice pw0_0 r.xRows.length cw0_0] ∧ Below w.heap.size w V ∧ OwTableResult V (.agg #[.int .i64 r.xCode, .slice pw0_0 r.xRows.length cw0_0]) r bw0_0 ∧ OwMirrorS V (.slice px0c_0 x0.length cx0c_0) x0 bx0c_0) ⟨Yw0, B, w0, x0c⟩ ?_
  clear Yw0 B w0 x0c
  rintro V11 ⟨Yw0, B, w0, x0c⟩
  refine (HI.out _ _ (by exact OwMirrorS.reads x0c)).mono ?_
  rintro e w12 ⟨u, bg0_0, rfl, g0, fg0_0, hb12⟩
  obtain ⟨pg0_0, cg0_0, rfl⟩ := g0.shp
  have F_g0 : ∀ y ∈ bg0_0, V11.heap.size ≤ y := fg0_0
  have dj_w0_g0 : Dj bw0_0 bg0_0 := fun y hy hm => Nat.not_lt.2 (F_g0 y hm) (w0.lt y hy)
  have dj_x0c_g0 : Dj bx0c_0 bg0_0 := fun y hy hm => Nat.not_lt.2 (F_g0 y hm) (x0c.lt y hy)
  have nb_Yw0_g0 : w8.heap.size ∉ bg0_0 := fun hm => Nat.not_lt.2 (F_g0 _ hm) Yw0.lt
  have G_g0 : ∀ y ∈ bg0_0, w.heap.size ≤ y := fun y hy => Nat.le_trans B.size (F_g0 y hy)
  clear F_g0
  replace Yw0 := Yw0.keep hb12
  replace w0 := w0.keep hb12
  replace x0c := x0c.keep hb12
  replace B := B.trans (hb12.mono B.size)
  have Yw0a := Yw0.at.1
  have Yw0l := Yw0.lt
  go_wp2_with fail
  clear Yw0a Yw0l
  have nb_Yg0_w0 : w12.heap.size ∉ bw0_0 := fun hm => Nat.lt_irrefl _ (w0.lt _ hm)
  have nb_Yg0_x0c : w12.heap.size ∉ bx0c_0 := fun hm => Nat.lt_irrefl _ (x0c.lt _ hm)
  have nb_Yg0_g0 : w12.heap.size ∉ bg0_0 := fun hm => Nat.lt_irrefl _ (g0.lt _ hm)
  refine Calls.at (F := fun V => Blk V (w8.heap.size) 55 #[.int .i64 r.xCode, .slice pw0_0 r.xRows.length cw0_0] ∧ Blk V (w12.heap.size) 55 #[.int .i64 r.xCode, .slice pg0_0 r.xRows.length cg0_0] ∧ Below w.heap.size w V ∧ OwTableResult V (.agg #[.int .i64 r.xCode, .slice pw0_0 r.xRows.length cw0_0]) r bw0_0 ∧ OwMirrorS V (.slice px0c_0 x0.length cx0c_0) x0 bx0c_0 ∧ OwTableResult V (.agg #[.int .i64 r.xCode, .slice pg0_0 r.xRows.length cg0_0]) r bg0_0) ⟨Yw0.alloc _, Blk.new _ _ _, B.alloc B.size _, w0.alloc _, x0c.alloc _, g0.alloc _⟩ ?_
  clear Yw0 B w0 x0c g0
  rintro V13 ⟨Yw0, Yg0, B, w0, x0c, g0⟩
  refine (eqTableResult_rd _ _ r _ (by exact g0.rd) (by exact w0.rd)).mono ?_
  rintro e w14 ⟨rfl, hb14⟩
  replace Yw0 := Yw0.keep hb14
  replace Yg0 := Yg0.keep hb14
  replace w0 := w0.keep hb14
  replace x0c := x0c.keep hb14
  replace g0 := g0.keep hb14
  replace B := B.trans (hb14.mono B.size)
  have Yw0a := Yw0.at.1
  have Yw0l := Yw0.lt
  have Yg0a := Yg0.at.1
  have Yg0l := Yg0.lt
  go_wp2_with fail
  clear Yw0a Yw0l Yg0a Yg0l
  refine Calls.at (F := fun V => Blk V (w8.heap.size) 55 #[.int .i64 r.xCode, .slice pw0_0 r.xRows.length cw0_0] ∧ Blk V (w12.heap.size) 55 #[.int .i64 r.xCode, .slice pg0_0 r.xRows.length cg0_0] ∧ Below w.heap.size w V ∧ OwTableResult V (.agg #[.int .i64 r.xCode, .slice pw0_0 r.xRows.length cw0_0]) r bw0_0 ∧ OwMirrorS V (.slice px0c_0 x0.length cx0c_0) x0 bx0c_0 ∧ OwTableResult V (.agg #[.int .i64 r.xCode, .slice pg0_0 r.xRows.length cg0_0]) r bg0_0) ⟨Yw0, Yg0, B, w0, x0c, g0⟩ ?_
  clear Yw0 Yg0 B w0 x0c g0
  rintro V15 ⟨Yw0, Yg0, B, w0, x0c, g0⟩
  refine (toMirrorS_ow _ x0 _ (by exact r0.below B) (by omega)).mono ?_
  rintro e w16 ⟨u, by0_0, rfl, y0, fy0_0, hb16⟩
  obtain ⟨py0_0, cy0_0, rfl⟩ := OwMirrorS.value y0
  have F_y0 : ∀ y ∈ by0_0, V15.heap.size ≤ y := fy0_0
  have dj_w0_y0 : Dj bw0_0 by0_0 := fun y hy hm => Nat.not_lt.2 (F_y0 y hm) (w0.lt y hy)
  have dj_x0c_y0 : Dj bx0c_0 by0_0 := fun y hy hm => Nat.not_lt.2 (F_y0 y hm) (x0c.lt y hy)
  have dj_g0_y0 : Dj bg0_0 by0_0 := fun y hy hm => Nat.not_lt.2 (F_y0 y hm) (g0.lt y hy)
  have nb_Yw0_y0 : w8.heap.size ∉ by0_0 := fun hm => Nat.not_lt.2 (F_y0 _ hm) Yw0.lt
  have nb_Yg0_y0 : w12.heap.size ∉ by0_0 := fun hm => Nat.not_lt.2 (F_y0 _ hm) Yg0.lt
  have G_y0 : ∀ y ∈ by0_0, w.heap.size ≤ y := fun y hy => Nat.le_trans B.size (F_y0 y hy)
  clear F_y0
  replace Yw0 := Yw0.keep hb16
  replace Yg0 := Yg0.keep hb16
  replace w0 := w0.keep hb16
  replace x0c := x0c.keep hb16
  replace g0 := g0.keep hb16
  replace B := B.trans (hb16.mono B.size)
  have Yw0a := Yw0.at.1
  have Yw0l := Yw0.lt
  have Yg0a := Yg0.at.1
  have Yg0l := Yg0.lt
  go_wp2_with fail
  clear Yw0a Yw0l Yg0a Yg0l
  refine Calls.at (F := fun V => Blk V (w8.heap.size) 55 #[.int .i64 r.xCode, .slice pw0_0 r.xRows.length cw0_0] ∧ Blk V (w12.heap.size) 55 #[.int .i64 r.xCode, .slice pg0_0 r.xRows.length cg0_0] ∧ Below w.heap.size w V ∧ OwTableResult V (.agg #[.int .i64 r.xCode, .slice pw0_0 r.xRows.length cw0_0]) r bw0_0 ∧ OwMirrorS V (.slice px0c_0 x0.length cx0c_0) x0 bx0c_0 ∧ OwTableResult V (.agg #[.int .i64 r.xCode, .slice pg0_0 r.xRows.length cg0_0]) r bg0_0 ∧ OwMirrorS V (.slice py0_0 x0.length cy0_0) x0 by0_0) ⟨Yw0, Yg0, B, w0, x0c, g0, y0⟩ ?_
  clear Yw0 Yg0 B w0 x0c g0 y0
  rintro V17 ⟨Yw0, Yg0, B, w0, x0c, g0, y0⟩
  refine (eqMirrorS_rd _ _ x0 _ (by exact OwMirrorS.reads x0c) (by exact OwMirrorS.reads y0)).mono ?_
  rintro e w18 ⟨rfl, hb18⟩
  replace Yw0 := Yw0.keep hb18
  replace Yg0 := Yg0.keep hb18
  replace w0 := w0.keep hb18
  replace x0c := x0c.keep hb18
  replace g0 := g0.keep hb18
  replace y0 := y0.keep hb18
  replace B := B.trans (hb18.mono B.size)
  clear y0 G_y0
  have Yw0a := Yw0.at.1
  have Yw0l := Yw0.lt
  have Yg0a := Yg0.at.1
  have Yg0l := Yg0.lt
  go_wp2_with fail
  clear Yw0a Yw0l Yg0a Yg0l
  refine Calls.at (F := fun V => Blk V (w8.heap.size) 55 #[.int .i64 r.xCode, .slice pw0_0 r.xRows.length cw0_0] ∧ Blk V (w12.heap.size) 55 #[.int .i64 r.xCode, .slice pg0_0 r.xRows.length cg0_0] ∧ Below w.heap.size w V ∧ OwTableResult V (.agg #[.int .i64 r.xCode, .slice pw0_0 r.xRows.length cw0_0]) r bw0_0 ∧ OwMirrorS V (.slice px0c_0 x0.length cx0c_0) x0 bx0c_0 ∧ OwTableResult V (.agg #[.int .i64 r.xCode, .slice pg0_0 r.xRows.length cg0_0]) r bg0_0) ⟨Yw0, Yg0, B, w0, x0c, g0⟩ ?_
  clear Yw0 Yg0 B w0 x0c g0
  rintro V19 ⟨Yw0, Yg0, B, w0, x0c, g0⟩
  refine (markMirrorS_ow _ x0 bx0c_0 _ _ (by exact x0c) (by omega) (by omega)).mono ?_
  rintro e w20 ⟨rfl, mm, oo⟩
  replace Yw0 := Yw0.off oo nb_Yw0_x0c
  replace Yg0 := Yg0.off oo nb_Yg0_x0c
  replace w0 := w0.off oo dj_w0_x0c
  replace g0 := g0.off oo dj_x0c_g0.symm
  replace B := B.trans (oo.toBelow B.size G_x0c)
  clear x0c
  have x0c := mm
  clear mm
  have Yw0a := Yw0.at.1
  have Yw0l := Yw0.lt
  have Yg0a := Yg0.at.1
  have Yg0l := Yg0.lt
  go_wp2_with fail
  clear Yw0a Yw0l Yg0a Yg0l
  refine Calls.at (F := fun V => Blk V (w8.heap.size) 55 #[.int .i64 r.xCode, .slice pw0_0 r.xRows.length cw0_0] ∧ Blk V (w12.heap.size) 55 #[.int .i64 r.xCode, .slice pg0_0 r.xRows.length cg0_0] ∧ Below w.heap.size w V ∧ OwTableResult V (.agg #[.int .i64 r.xCode, .slice pw0_0 r.xRows.length cw0_0]) r bw0_0 ∧ OwMirrorS V (.slice px0c_0 x0.length cx0c_0) (mkMirrorS 1 x0) bx0c_0 ∧ OwTableResult V (.agg #[.int .i64 r.xCode, .slice pg0_0 r.xRows.length cg0_0]) r bg0_0) ⟨Yw0, Yg0, B, w0, x0c, g0⟩ ?_
  clear Yw0 Yg0 B w0 x0c g0
  rintro V21 ⟨Yw0, Yg0, B, w0, x0c, g0⟩
  refine (eqTableResult_rd _ _ r _ (by exact g0.rd) (by exact w0.rd)).mono ?_
  rintro e w22 ⟨rfl, hb22⟩
  replace Yw0 := Yw0.keep hb22
  replace Yg0 := Yg0.keep hb22
  replace w0 := w0.keep hb22
  replace x0c := x0c.keep hb22
  replace g0 := g0.keep hb22
  replace B := B.trans (hb22.mono B.size)
  have Yw0a := Yw0.at.1
  have Yw0l := Yw0.lt
  have Yg0a := Yg0.at.1
  have Yg0l := Yg0.lt
  go_wp2_with fail
  clear Yw0a Yw0l Yg0a Yg0l
  refine Calls.at (F := fun V => Blk V (w8.heap.size) 55 #[.int .i64 r.xCode, .slice pw0_0 r.xRows.length cw0_0] ∧ Blk V (w12.heap.size) 55 #[.int .i64 r.xCode, .slice pg0_0 r.xRows.length cg0_0] ∧ Below w.heap.size w V ∧ OwTableResult V (.agg #[.int .i64 r.xCode, .slice pw0_0 r.xRows.length cw0_0]) r bw0_0 ∧ OwMirrorS V (.slice px0c_0 x0.length cx0c_0) (mkMirrorS 1 x0) bx0c_0 ∧ OwTableResult V (.agg #[.int .i64 r.xCode, .slice pg0_0 r.xRows.length cg0_0]) r bg0_0) ⟨Yw0, Yg0, B, w0, x0c, g0⟩ ?_
  clear Yw0 Yg0 B w0 x0c g0
  rintro V23 ⟨Yw0, Yg0, B, w0, x0c, g0⟩
  refine (markTableResult_ow _ r bg0_0 _ _ (by exact g0) (by omega) (by omega)).mono ?_
  rintro e w24 ⟨rfl, mm, oo⟩
  replace Yw0 := Yw0.off oo nb_Yw0_g0
  replace Yg0 := Yg0.off oo nb_Yg0_g0
  replace w0 := w0.off oo dj_w0_g0
  replace x0c := x0c.off oo dj_x0c_g0
  replace B := B.trans (oo.toBelow B.size G_g0)
  clear g0
  have g0 := mm
  clear mm
  have Yw0a := Yw0.at.1
  have Yw0l := Yw0.lt
  have Yg0a := Yg0.at.1
  have Yg0l := Yg0.lt
  go_wp2_with fail
  clear Yw0a Yw0l Yg0a Yg0l
  refine Calls.at (F := fun V => Blk V (w8.heap.size) 55 #[.int .i64 r.xCode, .slice pw0_0 r.xRows.length cw0_0] ∧ Blk V (w12.heap.size) 55 #[.int .i64 r.xCode, .slice pg0_0 r.xRows.length cg0_0] ∧ Below w.heap.size w V ∧ OwTableResult V (.agg #[.int .i64 r.xCode, .slice pw0_0 r.xRows.length cw0_0]) r bw0_0 ∧ OwMirrorS V (.slice px0c_0 x0.length cx0c_0) (mkMirrorS 1 x0) bx0c_0 ∧ OwTableResult V (.agg #[.int .i64 r.xCode, .slice pg0_0 r.xRows.length cg0_0]) (mkTableResult 1 r) bg0_0) ⟨Yw0, Yg0, B, w0, x0c, g0⟩ ?_
  clear Yw0 Yg0 B w0 x0c g0
  rintro V25 ⟨Yw0, Yg0, B, w0, x0c, g0⟩
  refine (heldTableResult_rd _ r _ _ (by exact g0.rd) (by omega) (by omega)).mono ?_
  rintro e w26 ⟨rfl, hb26⟩
  replace Yw0 := Yw0.keep hb26
  replace Yg0 := Yg0.keep hb26
  replace w0 := w0.keep hb26
  replace x0c := x0c.keep hb26
  replace g0 := g0.keep hb26
  replace B := B.trans (hb26.mono B.size)
  have Yw0a := Yw0.at.1
  have Yw0l := Yw0.lt
  have Yg0a := Yg0.at.1
  have Yg0l := Yg0.lt
  go_wp2_with fail
  clear Yw0a Yw0l Yg0a Yg0l
  refine Calls.at (F := fun V => Blk V (w8.heap.size) 55 #[.int .i64 r.xCode, .slice pw0_0 r.xRows.length cw0_0] ∧ Blk V (w12.heap.size) 55 #[.int .i64 r.xCode, .slice pg0_0 r.xRows.length cg0_0] ∧ Below w.heap.size w V ∧ OwTableResult V (.agg #[.int .i64 r.xCode, .slice pw0_0 r.xRows.length cw0_0]) r bw0_0 ∧ OwMirrorS V (.slice px0c_0 x0.length cx0c_0) (mkMirrorS 1 x0) bx0c_0 ∧ OwTableResult V (.agg #[.int .i64 r.xCode, .slice pg0_0 r.xRows.length cg0_0]) (mkTableResult 1 r) bg0_0) ⟨Yw0, Yg0, B, w0, x0c, g0⟩ ?_
  clear Yw0 Yg0 B w0 x0c g0
  rintro V27 ⟨Yw0, Yg0, B, w0, x0c, g0⟩
  refine (toMirrorS_ow _ x0 _ (by exact r0.below B) (by omega)).mono ?_
  rintro e w28 ⟨u, bh0a0_0, rfl, h0a0, fh0a0_0, hb28⟩
  obtain ⟨ph0a0_0, ch0a0_0, rfl⟩ := OwMirrorS.value h0a0
  have F_h0a0 : ∀ y ∈ bh0a0_0, V27.heap.size ≤ y := fh0a0_0
  have dj_w0_h0a0 : Dj bw0_0 bh0a0_0 := fun y hy hm => Nat.not_lt.2 (F_h0a0 y hm) (w0.lt y hy)
  have dj_x0c_h0a0 : Dj bx0c_0 bh0a0_0 := fun y hy hm => Nat.not_lt.2 (F_h0a0 y hm) (x0c.lt y hy)
  have dj_g0_h0a0 : Dj bg0_0 bh0a0_0 := fun y hy hm => Nat.not_lt.2 (F_h0a0 y hm) (g0.lt y hy)
  have nb_Yw0_h0a0 : w8.heap.size ∉ bh0a0_0 := fun hm => Nat.not_lt.2 (F_h0a0 _ hm) Yw0.lt
  have nb_Yg0_h0a0 : w12.heap.size ∉ bh0a0_0 := fun hm => Nat.not_lt.2 (F_h0a0 _ hm) Yg0.lt
  have G_h0a0 : ∀ y ∈ bh0a0_0, w.heap.size ≤ y := fun y hy => Nat.le_trans B.size (F_h0a0 y hy)
  clear F_h0a0
  replace Yw0 := Yw0.keep hb28
  replace Yg0 := Yg0.keep hb28
  replace w0 := w0.keep hb28
  replace x0c := x0c.keep hb28
  replace g0 := g0.keep hb28
  replace B := B.trans (hb28.mono B.size)
  have Yw0a := Yw0.at.1
  have Yw0l := Yw0.lt
  have Yg0a := Yg0.at.1
  have Yg0l := Yg0.lt
  go_wp2_with fail
  clear Yw0a Yw0l Yg0a Yg0l
  refine Calls.at (F := fun V => Blk V (w8.heap.size) 55 #[.int .i64 r.xCode, .slice pw0_0 r.xRows.length cw0_0] ∧ Blk V (w12.heap.size) 55 #[.int .i64 r.xCode, .slice pg0_0 r.xRows.length cg0_0] ∧ Below w.heap.size w V ∧ OwTableResult V (.agg #[.int .i64 r.xCode, .slice pw0_0 r.xRows.length cw0_0]) r bw0_0 ∧ OwMirrorS V (.slice px0c_0 x0.length cx0c_0) (mkMirrorS 1 x0) bx0c_0 ∧ OwTableResult V (.agg #[.int .i64 r.xCode, .slice pg0_0 r.xRows.length cg0_0]) (mkTableResult 1 r) bg0_0 ∧ OwMirrorS V (.slice ph0a0_0 x0.length ch0a0_0) x0 bh0a0_0) ⟨Yw0, Yg0, B, w0, x0c, g0, h0a0⟩ ?_
  clear Yw0 Yg0 B w0 x0c g0 h0a0
  rintro V29 ⟨Yw0, Yg0, B, w0, x0c, g0, h0a0⟩
  refine (HI.out _ _ (by exact OwMirrorS.reads h0a0)).mono ?_
  rintro e w30 ⟨u, bh0_0, rfl, h0, fh0_0, hb30⟩
  obtain ⟨ph0_0, ch0_0, rfl⟩ := h0.shp
  have F_h0 : ∀ y ∈ bh0_0, V29.heap.size ≤ y := fh0_0
  have dj_w0_h0 : Dj bw0_0 bh0_0 := fun y hy hm => Nat.not_lt.2 (F_h0 y hm) (w0.lt y hy)
  have dj_x0c_h0 : Dj bx0c_0 bh0_0 := fun y hy hm => Nat.not_lt.2 (F_h0 y hm) (x0c.lt y hy)
  have dj_g0_h0 : Dj bg0_0 bh0_0 := fun y hy hm => Nat.not_lt.2 (F_h0 y hm) (g0.lt y hy)
  have dj_h0a0_h0 : Dj bh0a0_0 bh0_0 := fun y hy hm => Nat.not_lt.2 (F_h0 y hm) (h0a0.lt y hy)
  have nb_Yw0_h0 : w8.heap.size ∉ bh0_0 := fun hm => Nat.not_lt.2 (F_h0 _ hm) Yw0.lt
  have nb_Yg0_h0 : w12.heap.size ∉ bh0_0 := fun hm => Nat.not_lt.2 (F_h0 _ hm) Yg0.lt
  have G_h0 : ∀ y ∈ bh0_0, w.heap.size ≤ y := fun y hy => Nat.le_trans B.size (F_h0 y hy)
  clear F_h0
  replace Yw0 := Yw0.keep hb30
  replace Yg0 := Yg0.keep hb30
  replace w0 := w0.keep hb30
  replace x0c := x0c.keep hb30
  replace g0 := g0.keep hb30
  replace h0a0 := h0a0.keep hb30
  replace B := B.trans (hb30.mono B.size)
  clear h0a0 G_h0a0
  have Yw0a := Yw0.at.1
  have Yw0l := Yw0.lt
  have Yg0a := Yg0.at.1
  have Yg0l := Yg0.lt
  go_wp2_with fail
  clear Yw0a Yw0l Yg0a Yg0l
  have nb_Yh0_w0 : w30.heap.size ∉ bw0_0 := fun hm => Nat.lt_irrefl _ (w0.lt _ hm)
  have nb_Yh0_x0c : w30.heap.size ∉ bx0c_0 := fun hm => Nat.lt_irrefl _ (x0c.lt _ hm)
  have nb_Yh0_g0 : w30.heap.size ∉ bg0_0 := fun hm => Nat.lt_irrefl _ (g0.lt _ hm)
  have nb_Yh0_h0 : w30.heap.size ∉ bh0_0 := fun hm => Nat.lt_irrefl _ (h0.lt _ hm)
  refine Calls.at (F := fun V => Blk V (w8.heap.size) 55 #[.int .i64 r.xCode, .slice pw0_0 r.xRows.length cw0_0] ∧ Blk V (w12.heap.size) 55 #[.int .i64 r.xCode, .slice pg0_0 r.xRows.length cg0_0] ∧ Blk V (w30.heap.size) 55 #[.int .i64 r.xCode, .slice ph0_0 r.xRows.length ch0_0] ∧ Below w.heap.size w V ∧ OwTableResult V (.agg #[.int .i64 r.xCode, .slice pw0_0 r.xRows.length cw0_0]) r bw0_0 ∧ OwMirrorS V (.slice px0c_0 x0.length cx0c_0) (mkMirrorS 1 x0) bx0c_0 ∧ OwTableResult V (.agg #[.int .i64 r.xCode, .slice pg0_0 r.xRows.length cg0_0]) (mkTableResult 1 r) bg0_0 ∧ OwTableResult V (.agg #[.int .i64 r.xCode, .slice ph0_0 r.xRows.length ch0_0]) r bh0_0) ⟨Yw0.alloc _, Yg0.alloc _, Blk.new _ _ _, B.alloc B.size _, w0.alloc _, x0c.alloc _, g0.alloc _, h0.alloc _⟩ ?_
  clear Yw0 Yg0 B w0 x0c g0 h0
  rintro V31 ⟨Yw0, Yg0, Yh0, B, w0, x0c, g0, h0⟩
  refine (eqTableResult_rd _ _ r _ (by exact h0.rd) (by exact w0.rd)).mono ?_
  rintro e w32 ⟨rfl, hb32⟩
  replace Yw0 := Yw0.keep hb32
  replace Yg0 := Yg0.keep hb32
  replace Yh0 := Yh0.keep hb32
  replace w0 := w0.keep hb32
  replace x0c := x0c.keep hb32
  replace g0 := g0.keep hb32
  replace h0 := h0.keep hb32
  replace B := B.trans (hb32.mono B.size)
  have Yw0a := Yw0.at.1
  have Yw0l := Yw0.lt
  have Yg0a := Yg0.at.1
  have Yg0l := Yg0.lt
  have Yh0a := Yh0.at.1
  have Yh0l := Yh0.lt
  go_wp2_with fail
  clear Yw0a Yw0l Yg0a Yg0l Yh0a Yh0l
  refine Calls.at (F := fun V => Blk V (w8.heap.size) 55 #[.int .i64 r.xCode, .slice pw0_0 r.xRows.length cw0_0] ∧ Blk V (w12.heap.size) 55 #[.int .i64 r.xCode, .slice pg0_0 r.xRows.length cg0_0] ∧ Blk V (w30.heap.size) 55 #[.int .i64 r.xCode, .slice ph0_0 r.xRows.length ch0_0] ∧ Below w.heap.size w V ∧ OwTableResult V (.agg #[.int .i64 r.xCode, .slice pw0_0 r.xRows.length cw0_0]) r bw0_0 ∧ OwMirrorS V (.slice px0c_0 x0.length cx0c_0) (mkMirrorS 1 x0) bx0c_0 ∧ OwTableResult V (.agg #[.int .i64 r.xCode, .slice pg0_0 r.xRows.length cg0_0]) (mkTableResult 1 r) bg0_0 ∧ OwTableResult V (.agg #[.int .i64 r.xCode, .slice ph0_0 r.xRows.length ch0_0]) r bh0_0) ⟨Yw0, Yg0, Yh0, B, w0, x0c, g0, h0⟩ ?_
  clear Yw0 Yg0 Yh0 B w0 x0c g0 h0
  rintro V33 ⟨Yw0, Yg0, Yh0, B, w0, x0c, g0, h0⟩
  refine (heldTableResult_rd _ r _ _ (by exact g0.rd) (by omega) (by omega)).mono ?_
  rintro e w34 ⟨rfl, hb34⟩
  replace Yw0 := Yw0.keep hb34
  replace Yg0 := Yg0.keep hb34
  replace Yh0 := Yh0.keep hb34
  replace w0 := w0.keep hb34
  replace x0c := x0c.keep hb34
  replace g0 := g0.keep hb34
  replace h0 := h0.keep hb34
  replace B := B.trans (hb34.mono B.size)
  have Yw0a := Yw0.at.1
  have Yw0l := Yw0.lt
  have Yg0a := Yg0.at.1
  have Yg0l := Yg0.lt
  have Yh0a := Yh0.at.1
  have Yh0l := Yh0.lt
  go_wp2
  go_ret
  exact ⟨rfl, B⟩
/-! the row's step -/
set_option maxRecDepth 100000 in
theorem lifted (os : Os) (started : os.Started) (H : Type) (enc : TypeId × Value → H) :
    ReturnsInHanded {} Try.checked os 6 .any (Rows.fnExactOpenManySpec.pre6 enc Try.prog Try.f6 Rows.fnExactOpenManyRow.domain false) (Rows.fnExactOpenManySpec.post enc Try.prog Try.f6 false true false false) := by
  refine returnsInHanded_of_change (C := Try.checked) own started (by kernel_rfl) Try.func6
    (ChangeSpec.witness6 (enc := enc) (C := Try.checked) false ⟨#[], #[.slice none 0 0, .int .i64 0, .int .i64 0], []⟩ 8 (by kernel_rfl) (by kernel_rfl) (by kernel_rfl) (by kernel_rfl)) ?_
  intro W base args ds gs before hval0 hW hcnd _
  have hval : ∀ (j : Nat) t v, Try.f6.params[j]? = some t → args[j]? = some v → Value.okWide Try.prog W .any base t v := hval0
  have hW' := hW
  obtain ⟨p, q, hA0, hV, rfl, hfz, hnd⟩ := hW
  have hA : DataW.TrodAll enc Try.prog W 0 (fun _ => true) true Try.f6.params.toList args.toList ds p := hA0
  rw [Try.params6] at hA hval
  obtain ⟨v0, vs0, d0, ds0, p0, q0, hargs, rfl, rfl, h0, r0⟩ := trodAll_cons hA
  obtain ⟨v1, vs1, d1, ds1, p1, q1, rfl, rfl, rfl, h1, r1⟩ := trodAll_cons r0
  obtain ⟨v2, vs2, d2, ds2, p2, q2, rfl, rfl, rfl, h2, r2⟩ := trodAll_cons r1
  obtain ⟨rfl, rfl, rfl⟩ := trodAll_nil r2
  obtain rfl : args = #[v0, v1, v2] := by cases args; simp_all
  obtain ⟨rfl, rfl⟩ := trodVars_none hV
  have k0 := h0
  have lt0 : ∀ x ∈ p0, x.block < W.heap.size := by obtain ⟨m, hm⟩ := k0; exact DataW.trod_lt m _ _ _ hm
  obtain ⟨a0, len0, cap0, rfl⟩ := okWide_slice Try.underlying42 (hval 0 42 v0 rfl rfl)
  obtain ⟨x0, w0⟩ : ∃ y, RdMirrorS W (.slice a0 len0 cap0) y := by
    obtain ⟨fuel, hf⟩ := h0
    obtain ⟨v, y, e, q⟩ := open_MirrorS hf
    obtain rfl : _ = v := by simpa [Value.cells] using e
    exact ⟨y, q⟩
  obtain ⟨a1, rfl, rfl, rfl, w1⟩ := open_int Try.underlying2 (hval 1 2 v1 rfl rfl) h1
  obtain ⟨a2, rfl, rfl, rfl, w2⟩ := open_int Try.underlying2 (hval 2 2 v2 rfl rfl) h2
  clear hA0 hval0
  refine (walk _ x0 a1 a2 W w0 w1 w2).mono fun e W' ⟨he, bel⟩ => ?_
  subst he
  exact ⟨_, rfl, _, _, _, [], _, [], hW', trodAll_mk1 (shut_bool Try.underlying4 _), (trodAll_cons_mk (Below.trod laidOut (by kernel_rfl) (of_decide_eq_true (by kernel_rfl)) k0 bel lt0) (trodAll_cons_mk (shut_int Try.underlying2 w1) (trodAll_cons_mk (shut_int Try.underlying2 w2) trodAll_mk0))), rfl, bel.frame _, fun h => by cases h⟩

theorem over : Rows.fnExactOpenManyRow.holds Try.pinned (OpenSpec.ofChange Rows.fnExactOpenManySpec) :=
  OpenClaim.holds_of_wide 6 Try.f6 rfl rfl rfl rfl rfl rfl rfl ⟨rfl, rfl, rfl, rfl, rfl⟩ rfl rfl rfl rfl rfl (by kernel_rfl) Try.func6 (by kernel_rfl)
    (of_decide_eq_true (by kernel_rfl)) (by unfold Func.isWrapper; first | (rw [if_pos (by decide +kernel)]; kernel_rfl) | (rw [if_neg (by decide +kernel)]; exact ⟨rfl, rfl⟩))
    (fun os started H enc _ => lifted os started H enc)

end Go.Proofs.Ytcnbkdpmcohlgam.fnExactOpenMany
namespace Go.Proofs.Ytcnbkdpmcohlgam
theorem fnExactOpenMany_holds : Rows.FnExactOpenManySaid := fnExactOpenMany.over
#print axioms fnExactOpenMany_holds
end Go.Proofs.Ytcnbkdpmcohlgam
