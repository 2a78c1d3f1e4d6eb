/-
  FnExactMirrorOf answers true at every whole number and every list of whole numbers: the program's MirrorOf answers as its model does, writes into no argument, and each answer owns its memory.
-/
import Derived.Test.YtadppilldijijaiMirP
import Derived.Test.YtadppilldijijaiMirO
import Derived.Test.YtadppilldijijaiOpen
import Derived.Test.YtadppilldijijaiOpen
import Derived.Deep.RegionHeld3
import Derived.Deep.CutRange
import Derived.Deep.Cut
import Derived.Deep.RegionWith
import Derived.ShutString
import Derived.ChangeOld
import Derived.Below
namespace Go.Proofs.Ytadppilldijijai.fnExactMirrorOf
open Go.ChangeShapes Go.WideShapes Go.ChangeAt Go.RowKit
open Go.ChangeMaps (open_string shut_string)
set_option linter.unusedVariables false

theorem own : ownKnob Try.prog.godebug = none := by kernel_rfl
theorem laidOut : laidOutB Try.prog = true := by kernel_rfl

set_option maxHeartbeats 4000000 in
set_option maxRecDepth 100000 in
theorem walk (a0 : Int) (v1 : Value) (x1 : List Int) (w : World) (r1 : Reads w .i64 (v1) x1) (w0 : (Lit.int .i64 a0).wf = true) :
    Calls Try.prog 5 #[.int .i64 a0, v1] w fun e w' => e = .returned (.bool true) ∧ Below w.heap.size w w' := by
  obtain ⟨p1_0, c1_0, hv1⟩ : ∃ p c, v1 = .slice p x1.length c := Reads.shp r1
  subst hv1
  by_cases hl1 : 1048576 < x1.length
  · have hm := Reads.le r1
    unfold maxLen at hm
    go_enter Try.func5, Try.ntmps5
    go_wp2
    go_ret
    exact ⟨rfl, (by repeat (first | exact Below.refl _ _ | refine Below.drew ?_ | refine below_drewN ?_ _ | refine Below.setCell ?_ (by first | omega | (simp; done) | (simp; omega)) _ | refine Below.alloc ?_ (by first | omega | (simp; done) | (simp; omega)) _))⟩
  have KS : ∀ (V : World) (u1 : Value), Reads V .i64 (u1) x1 → Calls Try.prog 19 #[.int .i64 a0, u1] V fun e V' => ∃ u b0, e = .returned u ∧ OwMirrorResult V' (u) (mirrorOfR a0 x1) b0 ∧ (∀ y ∈ b0, V.heap.size ≤ y) ∧ Below V.heap.size V V' := fun V u1 h => spec_MirrorOf _ _ _ _ h
  have KI : ∀ (V : World) (u1 : Value), Reads V .i64 (u1) x1 → Calls Try.prog 21 #[.int .i64 a0, u1] V fun e V' => ∃ u b0, e = .returned u ∧ OwMirrorResult V' (u) (mirrorOfR a0 x1) b0 ∧ (∀ y ∈ b0, V.heap.size ≤ y) ∧ Below V.heap.size V V' := fun V u1 h => impl_MirrorOf _ _ _ _ h
  obtain ⟨r, HS, HI, hcr⟩ : ∃ r : MMirrorResult, Hid (∀ (V : World) (u1 : Value), Reads V .i64 (u1) x1 → Calls Try.prog 19 #[.int .i64 a0, u1] V fun e V' => ∃ u b0, e = .returned u ∧ OwMirrorResult V' (u) r b0 ∧ (∀ y ∈ b0, V.heap.size ≤ y) ∧ Below V.heap.size V V') ∧ Hid (∀ (V : World) (u1 : Value), Reads V .i64 (u1) x1 → Calls Try.prog 21 #[.int .i64 a0, u1] V fun e V' => ∃ u b0, e = .returned u ∧ OwMirrorResult V' (u) r b0 ∧ (∀ y ∈ b0, V.heap.size ≤ y) ∧ Below V.heap.size V V') ∧ cntMirrorResult r ≤ 268435456 := ⟨mirrorOfR a0 x1, KS, KI, mirrorOfR_cnt a0 x1⟩
  clear KS KI
  go_enter Try.func5, Try.ntmps5
  go_wp2_with fail
  refine Calls.at (F := fun V => Below w.heap.size w V) (Below.refl _ _) ?_
  rintro V1 B
  refine (toInt64S_ow _ x1 _ (by exact r1.below B) (by omega)).mono ?_
  rintro e w2 ⟨u, bw0a1_0, rfl, w0a1, fw0a1_0, hb2⟩
  obtain ⟨pw0a1_0, cw0a1_0, rfl⟩ := Ints.value w0a1
  have F_w0a1 : ∀ y ∈ bw0a1_0, V1.heap.size ≤ y := fw0a1_0
  have G_w0a1 : ∀ y ∈ bw0a1_0, w.heap.size ≤ y := fun y hy => Nat.le_trans B.size (F_w0a1 y hy)
  clear F_w0a1
  replace B := B.trans (hb2.mono B.size)
  go_wp2_with fail
  refine Calls.at (F := fun V => Below w.heap.size w V ∧ Ints V (.slice pw0a1_0 x1.length cw0a1_0) x1 bw0a1_0) ⟨B, w0a1⟩ ?_
  clear B w0a1
  rintro V3 ⟨B, w0a1⟩
  refine (HS.out _ _ (by exact Ints.reads w0a1)).mono ?_
  rintro e w4 ⟨u, bw0_0, rfl, w0, fw0_0, hb4⟩
  obtain ⟨pw0_0, cw0_0, rfl⟩ := w0.shp
  have F_w0 : ∀ y ∈ bw0_0, V3.heap.size ≤ y := fw0_0
  have dj_w0a1_w0 : Dj bw0a1_0 bw0_0 := fun y hy hm => Nat.not_lt.2 (F_w0 y hm) (w0a1.lt y hy)
  have G_w0 : ∀ y ∈ bw0_0, w.heap.size ≤ y := fun y hy => Nat.le_trans B.size (F_w0 y hy)
  clear F_w0
  replace w0a1 := w0a1.keep hb4
  replace B := B.trans (hb4.mono B.size)
  clear w0a1 G_w0a1
  go_wp2_with fail
  have nb_Yw0_w0 : w4.heap.size ∉ bw0_0 := fun hm => Nat.lt_irrefl _ (w0.lt _ hm)
  refine Calls.at (F := fun V => Blk V (w4.heap.size) 40 #[.int .i64 r.xCode, .int .i64 r.xMirror.xQ, .slice pw0_0 r.xMirror.xViews.length cw0_0] ∧ Below w.heap.size w V ∧ OwMirrorResult V (.agg #[.int .i64 r.xCode, .int .i64 r.xMirror.xQ, .slice pw0_0 r.xMirror.xViews.length cw0_0]) r bw0_0) ⟨Blk.new _ _ _, B.alloc B.size _, w0.alloc _⟩ ?_
  clear B w0
  rintro V5 ⟨Yw0, B, w0⟩
  refine (toInt64S_ow _ x1 _ (by exact r1.below B) (by omega)).mono ?_
  rintro e w6 ⟨u, bx1c_0, rfl, x1c, fx1c_0, hb6⟩
  obtain ⟨px1c_0, cx1c_0, rfl⟩ := Ints.value x1c
  have F_x1c : ∀ y ∈ bx1c_0, V5.heap.size ≤ y := fx1c_0
  have dj_w0_x1c : Dj bw0_0 bx1c_0 := fun y hy hm => Nat.not_lt.2 (F_x1c y hm) (w0.lt y hy)
  have nb_Yw0_x1c : w4.heap.size ∉ bx1c_0 := fun hm => Nat.not_lt.2 (F_x1c _ hm) Yw0.lt
  have G_x1c : ∀ y ∈ bx1c_0, w.heap.size ≤ y := fun y hy => Nat.le_trans B.size (F_x1c y hy)
  clear F_x1c
  replace Yw0 := Yw0.keep hb6
  replace w0 := w0.keep hb6
  replace B := B.trans (hb6.mono B.size)
  have Yw0a := Yw0.at.1
  have Yw0l := Yw0.lt
  go_wp2_with fail
  clear Yw0a Yw0l
  refine Calls.at (F := fun V => Blk V (w4.heap.size) 40 #[.int .i64 r.xCode, .int .i64 r.xMirror.xQ, .slice pw0_0 r.xMirror.xViews.length cw0_0] ∧ Below w.heap.size w V ∧ OwMirrorResult V (.agg #[.int .i64 r.xCode, .int .i64 r.xMirror.xQ, .slice pw0_0 r.xMirror.xViews.length cw0_0]) r bw0_0 ∧ Ints V (.slice px1c_0 x1.length cx1c_0) x1 bx1c_0) ⟨Yw0, B, w0, x1c⟩ ?_
  clear Yw0 B w0 x1c
  rintro V7 ⟨Yw0, B, w0, x1c⟩
  refine (HI.out _ _ (by exact Ints.reads x1c)).mono ?_
  rintro e w8 ⟨u, bg0_0, rfl, g0, fg0_0, hb8⟩
  obtain ⟨pg0_0, cg0_0, rfl⟩ := g0.shp
  have F_g0 : ∀ y ∈ bg0_0, V7.heap.size ≤ y := fg0_0
  have dj_w0_g0 : Dj bw0_0 bg0_0 := fun y hy hm => Nat.not_lt.2 (F_g0 y hm) (w0.lt y hy)
  have dj_x1c_g0 : Dj bx1c_0 bg0_0 := fun y hy hm => Nat.not_lt.2 (F_g0 y hm) (x1c.lt y hy)
  have nb_Yw0_g0 : w4.heap.size ∉ bg0_0 := fun hm => Nat.not_lt.2 (F_g0 _ hm) Yw0.lt
  have G_g0 : ∀ y ∈ bg0_0, w.heap.size ≤ y := fun y hy => Nat.le_trans B.size (F_g0 y hy)
  clear F_g0
  replace Yw0 := Yw0.keep hb8
  replace w0 := w0.keep hb8
  replace x1c := x1c.keep hb8
  replace B := B.trans (hb8.mono B.size)
  have Yw0a := Yw0.at.1
  have Yw0l := Yw0.lt
  go_wp2_with fail
  clear Yw0a Yw0l
  have nb_Yg0_w0 : w8.heap.size ∉ bw0_0 := fun hm => Nat.lt_irrefl _ (w0.lt _ hm)
  have nb_Yg0_x1c : w8.heap.size ∉ bx1c_0 := fun hm => Nat.lt_irrefl _ (x1c.lt _ hm)
  have nb_Yg0_g0 : w8.heap.size ∉ bg0_0 := fun hm => Nat.lt_irrefl _ (g0.lt _ hm)
  refine Calls.at (F := fun V => Blk V (w4.heap.size) 40 #[.int .i64 r.xCode, .int .i64 r.xMirror.xQ, .slice pw0_0 r.xMirror.xViews.length cw0_0] ∧ Blk V (w8.heap.size) 40 #[.int .i64 r.xCode, .int .i64 r.xMirror.xQ, .slice pg0_0 r.xMirror.xViews.length cg0_0] ∧ Below w.heap.size w V ∧ OwMirrorResult V (.agg #[.int .i64 r.xCode, .int .i64 r.xMirror.xQ, .slice pw0_0 r.xMirror.xViews.length cw0_0]) r bw0_0 ∧ Ints V (.slice px1c_0 x1.length cx1c_0) x1 bx1c_0 ∧ OwMirrorResult V (.agg #[.int .i64 r.xCode, .int .i64 r.xMirror.xQ, .slice pg0_0 r.xMirror.xViews.length cg0_0]) r bg0_0) ⟨Yw0.alloc _, Blk.new _ _ _, B.alloc B.size _, w0.alloc _, x1c.alloc _, g0.alloc _⟩ ?_
  clear Yw0 B w0 x1c g0
  rintro V9 ⟨Yw0, Yg0, B, w0, x1c, g0⟩
  refine (eqMirrorResult_rd _ _ r _ (by exact g0.rd) (by exact w0.rd)).mono ?_
  rintro e w10 ⟨rfl, hb10⟩
  replace Yw0 := Yw0.keep hb10
  replace Yg0 := Yg0.keep hb10
  replace w0 := w0.keep hb10
  replace x1c := x1c.keep hb10
  replace g0 := g0.keep hb10
  replace B := B.trans (hb10.mono B.size)
  have Yw0a := Yw0.at.1
  have Yw0l := Yw0.lt
  have Yg0a := Yg0.at.1
  have Yg0l := Yg0.lt
  go_wp2_with fail
  clear Yw0a Yw0l Yg0a Yg0l
  refine Calls.at (F := fun V => Blk V (w4.heap.size) 40 #[.int .i64 r.xCode, .int .i64 r.xMirror.xQ, .slice pw0_0 r.xMirror.xViews.length cw0_0] ∧ Blk V (w8.heap.size) 40 #[.int .i64 r.xCode, .int .i64 r.xMirror.xQ, .slice pg0_0 r.xMirror.xViews.length cg0_0] ∧ Below w.heap.size w V ∧ OwMirrorResult V (.agg #[.int .i64 r.xCode, .int .i64 r.xMirror.xQ, .slice pw0_0 r.xMirror.xViews.length cw0_0]) r bw0_0 ∧ Ints V (.slice px1c_0 x1.length cx1c_0) x1 bx1c_0 ∧ OwMirrorResult V (.agg #[.int .i64 r.xCode, .int .i64 r.xMirror.xQ, .slice pg0_0 r.xMirror.xViews.length cg0_0]) r bg0_0) ⟨Yw0, Yg0, B, w0, x1c, g0⟩ ?_
  clear Yw0 Yg0 B w0 x1c g0
  rintro V11 ⟨Yw0, Yg0, B, w0, x1c, g0⟩
  refine (toInt64S_ow _ x1 _ (by exact r1.below B) (by omega)).mono ?_
  rintro e w12 ⟨u, by1_0, rfl, y1, fy1_0, hb12⟩
  obtain ⟨py1_0, cy1_0, rfl⟩ := Ints.value y1
  have F_y1 : ∀ y ∈ by1_0, V11.heap.size ≤ y := fy1_0
  have dj_w0_y1 : Dj bw0_0 by1_0 := fun y hy hm => Nat.not_lt.2 (F_y1 y hm) (w0.lt y hy)
  have dj_x1c_y1 : Dj bx1c_0 by1_0 := fun y hy hm => Nat.not_lt.2 (F_y1 y hm) (x1c.lt y hy)
  have dj_g0_y1 : Dj bg0_0 by1_0 := fun y hy hm => Nat.not_lt.2 (F_y1 y hm) (g0.lt y hy)
  have nb_Yw0_y1 : w4.heap.size ∉ by1_0 := fun hm => Nat.not_lt.2 (F_y1 _ hm) Yw0.lt
  have nb_Yg0_y1 : w8.heap.size ∉ by1_0 := fun hm => Nat.not_lt.2 (F_y1 _ hm) Yg0.lt
  have G_y1 : ∀ y ∈ by1_0, w.heap.size ≤ y := fun y hy => Nat.le_trans B.size (F_y1 y hy)
  clear F_y1
  replace Yw0 := Yw0.keep hb12
  replace Yg0 := Yg0.keep hb12
  replace w0 := w0.keep hb12
  replace x1c := x1c.keep hb12
  replace g0 := g0.keep hb12
  replace B := B.trans (hb12.mono B.size)
  have Yw0a := Yw0.at.1
  have Yw0l := Yw0.lt
  have Yg0a := Yg0.at.1
  have Yg0l := Yg0.lt
  go_wp2_with fail
  clear Yw0a Yw0l Yg0a Yg0l
  refine Calls.at (F := fun V => Blk V (w4.heap.size) 40 #[.int .i64 r.xCode, .int .i64 r.xMirror.xQ, .slice pw0_0 r.xMirror.xViews.length cw0_0] ∧ Blk V (w8.heap.size) 40 #[.int .i64 r.xCode, .int .i64 r.xMirror.xQ, .slice pg0_0 r.xMirror.xViews.length cg0_0] ∧ Below w.heap.size w V ∧ OwMirrorResult V (.agg #[.int .i64 r.xCode, .int .i64 r.xMirror.xQ, .slice pw0_0 r.xMirror.xViews.length cw0_0]) r bw0_0 ∧ Ints V (.slice px1c_0 x1.length cx1c_0) x1 bx1c_0 ∧ OwMirrorResult V (.agg #[.int .i64 r.xCode, .int .i64 r.xMirror.xQ, .slice pg0_0 r.xMirror.xViews.length cg0_0]) r bg0_0 ∧ Ints V (.slice py1_0 x1.length cy1_0) x1 by1_0) ⟨Yw0, Yg0, B, w0, x1c, g0, y1⟩ ?_
  clear Yw0 Yg0 B w0 x1c g0 y1
  rintro V13 ⟨Yw0, Yg0, B, w0, x1c, g0, y1⟩
  refine (eqInt64S_rd _ _ x1 _ (by exact Ints.reads x1c) (by exact Ints.reads y1)).mono ?_
  rintro e w14 ⟨rfl, hb14⟩
  replace Yw0 := Yw0.keep hb14
  replace Yg0 := Yg0.keep hb14
  replace w0 := w0.keep hb14
  replace x1c := x1c.keep hb14
  replace g0 := g0.keep hb14
  replace y1 := y1.keep hb14
  replace B := B.trans (hb14.mono B.size)
  clear y1 G_y1
  have Yw0a := Yw0.at.1
  have Yw0l := Yw0.lt
  have Yg0a := Yg0.at.1
  have Yg0l := Yg0.lt
  go_wp2_with fail
  clear Yw0a Yw0l Yg0a Yg0l
  refine Calls.at (F := fun V => Blk V (w4.heap.size) 40 #[.int .i64 r.xCode, .int .i64 r.xMirror.xQ, .slice pw0_0 r.xMirror.xViews.length cw0_0] ∧ Blk V (w8.heap.size) 40 #[.int .i64 r.xCode, .int .i64 r.xMirror.xQ, .slice pg0_0 r.xMirror.xViews.length cg0_0] ∧ Below w.heap.size w V ∧ OwMirrorResult V (.agg #[.int .i64 r.xCode, .int .i64 r.xMirror.xQ, .slice pw0_0 r.xMirror.xViews.length cw0_0]) r bw0_0 ∧ Ints V (.slice px1c_0 x1.length cx1c_0) x1 bx1c_0 ∧ OwMirrorResult V (.agg #[.int .i64 r.xCode, .int .i64 r.xMirror.xQ, .slice pg0_0 r.xMirror.xViews.length cg0_0]) r bg0_0) ⟨Yw0, Yg0, B, w0, x1c, g0⟩ ?_
  clear Yw0 Yg0 B w0 x1c g0
  rintro V15 ⟨Yw0, Yg0, B, w0, x1c, g0⟩
  refine (markInt64S_ow _ x1 bx1c_0 _ _ (by exact x1c) (by omega) (by omega)).mono ?_
  rintro e w16 ⟨rfl, mm, oo⟩
  replace Yw0 := Yw0.off oo nb_Yw0_x1c
  replace Yg0 := Yg0.off oo nb_Yg0_x1c
  replace w0 := w0.off oo dj_w0_x1c
  replace g0 := g0.off oo dj_x1c_g0.symm
  replace B := B.trans (oo.toBelow B.size G_x1c)
  clear x1c
  have x1c := mm
  clear mm
  have Yw0a := Yw0.at.1
  have Yw0l := Yw0.lt
  have Yg0a := Yg0.at.1
  have Yg0l := Yg0.lt
  go_wp2_with fail
  clear Yw0a Yw0l Yg0a Yg0l
  refine Calls.at (F := fun V => Blk V (w4.heap.size) 40 #[.int .i64 r.xCode, .int .i64 r.xMirror.xQ, .slice pw0_0 r.xMirror.xViews.length cw0_0] ∧ Blk V (w8.heap.size) 40 #[.int .i64 r.xCode, .int .i64 r.xMirror.xQ, .slice pg0_0 r.xMirror.xViews.length cg0_0] ∧ Below w.heap.size w V ∧ OwMirrorResult V (.agg #[.int .i64 r.xCode, .int .i64 r.xMirror.xQ, .slice pw0_0 r.xMirror.xViews.length cw0_0]) r bw0_0 ∧ Ints V (.slice px1c_0 x1.length cx1c_0) (marks 1 x1.length) bx1c_0 ∧ OwMirrorResult V (.agg #[.int .i64 r.xCode, .int .i64 r.xMirror.xQ, .slice pg0_0 r.xMirror.xViews.length cg0_0]) r bg0_0) ⟨Yw0, Yg0, B, w0, x1c, g0⟩ ?_
  clear Yw0 Yg0 B w0 x1c g0
  rintro V17 ⟨Yw0, Yg0, B, w0, x1c, g0⟩
  refine (eqMirrorResult_rd _ _ r _ (by exact g0.rd) (by exact w0.rd)).mono ?_
  rintro e w18 ⟨rfl, hb18⟩
  replace Yw0 := Yw0.keep hb18
  replace Yg0 := Yg0.keep hb18
  replace w0 := w0.keep hb18
  replace x1c := x1c.keep hb18
  replace g0 := g0.keep hb18
  replace B := B.trans (hb18.mono B.size)
  have Yw0a := Yw0.at.1
  have Yw0l := Yw0.lt
  have Yg0a := Yg0.at.1
  have Yg0l := Yg0.lt
  go_wp2_with fail
  clear Yw0a Yw0l Yg0a Yg0l
  refine Calls.at (F := fun V => Blk V (w4.heap.size) 40 #[.int .i64 r.xCode, .int .i64 r.xMirror.xQ, .slice pw0_0 r.xMirror.xViews.length cw0_0] ∧ Blk V (w8.heap.size) 40 #[.int .i64 r.xCode, .int .i64 r.xMirror.xQ, .slice pg0_0 r.xMirror.xViews.length cg0_0] ∧ Below w.heap.size w V ∧ OwMirrorResult V (.agg #[.int .i64 r.xCode, .int .i64 r.xMirror.xQ, .slice pw0_0 r.xMirror.xViews.length cw0_0]) r bw0_0 ∧ Ints V (.slice px1c_0 x1.length cx1c_0) (marks 1 x1.length) bx1c_0 ∧ OwMirrorResult V (.agg #[.int .i64 r.xCode, .int .i64 r.xMirror.xQ, .slice pg0_0 r.xMirror.xViews.length cg0_0]) r bg0_0) ⟨Yw0, Yg0, B, w0, x1c, g0⟩ ?_
  clear Yw0 Yg0 B w0 x1c g0
  rintro V19 ⟨Yw0, Yg0, B, w0, x1c, g0⟩
  refine (markMirrorResult_ow _ r bg0_0 _ _ (by exact g0) (by omega) (by omega)).mono ?_
  rintro e w20 ⟨rfl, mm, oo⟩
  replace Yw0 := Yw0.off oo nb_Yw0_g0
  replace Yg0 := Yg0.off oo nb_Yg0_g0
  replace w0 := w0.off oo dj_w0_g0
  replace x1c := x1c.off oo dj_x1c_g0
  replace B := B.trans (oo.toBelow B.size G_g0)
  clear g0
  have g0 := mm
  clear mm
  have Yw0a := Yw0.at.1
  have Yw0l := Yw0.lt
  have Yg0a := Yg0.at.1
  have Yg0l := Yg0.lt
  go_wp2_with fail
  clear Yw0a Yw0l Yg0a Yg0l
  refine Calls.at (F := fun V => Blk V (w4.heap.size) 40 #[.int .i64 r.xCode, .int .i64 r.xMirror.xQ, .slice pw0_0 r.xMirror.xViews.length cw0_0] ∧ Blk V (w8.heap.size) 40 #[.int .i64 r.xCode, .int .i64 r.xMirror.xQ, .slice pg0_0 r.xMirror.xViews.length cg0_0] ∧ Below w.heap.size w V ∧ OwMirrorResult V (.agg #[.int .i64 r.xCode, .int .i64 r.xMirror.xQ, .slice pw0_0 r.xMirror.xViews.length cw0_0]) r bw0_0 ∧ Ints V (.slice px1c_0 x1.length cx1c_0) (marks 1 x1.length) bx1c_0 ∧ OwMirrorResult V (.agg #[.int .i64 r.xCode, .int .i64 r.xMirror.xQ, .slice pg0_0 r.xMirror.xViews.length cg0_0]) (mkMirrorResult 1 r) bg0_0) ⟨Yw0, Yg0, B, w0, x1c, g0⟩ ?_
  clear Yw0 Yg0 B w0 x1c g0
  rintro V21 ⟨Yw0, Yg0, B, w0, x1c, g0⟩
  refine (heldMirrorResult_rd _ r _ _ (by exact g0.rd) (by omega) (by omega)).mono ?_
  rintro e w22 ⟨rfl, hb22⟩
  replace Yw0 := Yw0.keep hb22
  replace Yg0 := Yg0.keep hb22
  replace w0 := w0.keep hb22
  replace x1c := x1c.keep hb22
  replace g0 := g0.keep hb22
  replace B := B.trans (hb22.mono B.size)
  have Yw0a := Yw0.at.1
  have Yw0l := Yw0.lt
  have Yg0a := Yg0.at.1
  have Yg0l := Yg0.lt
  go_wp2_with fail
  clear Yw0a Yw0l Yg0a Yg0l
  refine Calls.at (F := fun V => Blk V (w4.heap.size) 40 #[.int .i64 r.xCode, .int .i64 r.xMirror.xQ, .slice pw0_0 r.xMirror.xViews.length cw0_0] ∧ Blk V (w8.heap.size) 40 #[.int .i64 r.xCode, .int .i64 r.xMirror.xQ, .slice pg0_0 r.xMirror.xViews.length cg0_0] ∧ Below w.heap.size w V ∧ OwMirrorResult V (.agg #[.int .i64 r.xCode, .int .i64 r.xMirror.xQ, .slice pw0_0 r.xMirror.xViews.length cw0_0]) r bw0_0 ∧ Ints V (.slice px1c_0 x1.length cx1c_0) (marks 1 x1.length) bx1c_0 ∧ OwMirrorResult V (.agg #[.int .i64 r.xCode, .int .i64 r.xMirror.xQ, .slice pg0_0 r.xMirror.xViews.length cg0_0]) (mkMirrorResult 1 r) bg0_0) ⟨Yw0, Yg0, B, w0, x1c, g0⟩ ?_
  clear Yw0 Yg0 B w0 x1c g0
  rintro V23 ⟨Yw0, Yg0, B, w0, x1c, g0⟩
  refine (toInt64S_ow _ x1 _ (by exact r1.below B) (by omega)).mono ?_
  rintro e w24 ⟨u, bh0a1_0, rfl, h0a1, fh0a1_0, hb24⟩
  obtain ⟨ph0a1_0, ch0a1_0, rfl⟩ := Ints.value h0a1
  have F_h0a1 : ∀ y ∈ bh0a1_0, V23.heap.size ≤ y := fh0a1_0
  have dj_w0_h0a1 : Dj bw0_0 bh0a1_0 := fun y hy hm => Nat.not_lt.2 (F_h0a1 y hm) (w0.lt y hy)
  have dj_x1c_h0a1 : Dj bx1c_0 bh0a1_0 := fun y hy hm => Nat.not_lt.2 (F_h0a1 y hm) (x1c.lt y hy)
  have dj_g0_h0a1 : Dj bg0_0 bh0a1_0 := fun y hy hm => Nat.not_lt.2 (F_h0a1 y hm) (g0.lt y hy)
  have nb_Yw0_h0a1 : w4.heap.size ∉ bh0a1_0 := fun hm => Nat.not_lt.2 (F_h0a1 _ hm) Yw0.lt
  have nb_Yg0_h0a1 : w8.heap.size ∉ bh0a1_0 := fun hm => Nat.not_lt.2 (F_h0a1 _ hm) Yg0.lt
  have G_h0a1 : ∀ y ∈ bh0a1_0, w.heap.size ≤ y := fun y hy => Nat.le_trans B.size (F_h0a1 y hy)
  clear F_h0a1
  replace Yw0 := Yw0.keep hb24
  replace Yg0 := Yg0.keep hb24
  replace w0 := w0.keep hb24
  replace x1c := x1c.keep hb24
  replace g0 := g0.keep hb24
  replace B := B.trans (hb24.mono B.size)
  have Yw0a := Yw0.at.1
  have Yw0l := Yw0.lt
  have Yg0a := Yg0.at.1
  have Yg0l := Yg0.lt
  go_wp2_with fail
  clear Yw0a Yw0l Yg0a Yg0l
  refine Calls.at (F := fun V => Blk V (w4.heap.size) 40 #[.int .i64 r.xCode, .int .i64 r.xMirror.xQ, .slice pw0_0 r.xMirror.xViews.length cw0_0] ∧ Blk V (w8.heap.size) 40 #[.int .i64 r.xCode, .int .i64 r.xMirror.xQ, .slice pg0_0 r.xMirror.xViews.length cg0_0] ∧ Below w.heap.size w V ∧ OwMirrorResult V (.agg #[.int .i64 r.xCode, .int .i64 r.xMirror.xQ, .slice pw0_0 r.xMirror.xViews.length cw0_0]) r bw0_0 ∧ Ints V (.slice px1c_0 x1.length cx1c_0) (marks 1 x1.length) bx1c_0 ∧ OwMirrorResult V (.agg #[.int .i64 r.xCode, .int .i64 r.xMirror.xQ, .slice pg0_0 r.xMirror.xViews.length cg0_0]) (mkMirrorResult 1 r) bg0_0 ∧ Ints V (.slice ph0a1_0 x1.length ch0a1_0) x1 bh0a1_0) ⟨Yw0, Yg0, B, w0, x1c, g0, h0a1⟩ ?_
  clear Yw0 Yg0 B w0 x1c g0 h0a1
  rintro V25 ⟨Yw0, Yg0, B, w0, x1c, g0, h0a1⟩
  refine (HI.out _ _ (by exact Ints.reads h0a1)).mono ?_
  rintro e w26 ⟨u, bh0_0, rfl, h0, fh0_0, hb26⟩
  obtain ⟨ph0_0, ch0_0, rfl⟩ := h0.shp
  have F_h0 : ∀ y ∈ bh0_0, V25.heap.size ≤ y := fh0_0
  have dj_w0_h0 : Dj bw0_0 bh0_0 := fun y hy hm => Nat.not_lt.2 (F_h0 y hm) (w0.lt y hy)
  have dj_x1c_h0 : Dj bx1c_0 bh0_0 := fun y hy hm => Nat.not_lt.2 (F_h0 y hm) (x1c.lt y hy)
  have dj_g0_h0 : Dj bg0_0 bh0_0 := fun y hy hm => Nat.not_lt.2 (F_h0 y hm) (g0.lt y hy)
  have dj_h0a1_h0 : Dj bh0a1_0 bh0_0 := fun y hy hm => Nat.not_lt.2 (F_h0 y hm) (h0a1.lt y hy)
  have nb_Yw0_h0 : w4.heap.size ∉ bh0_0 := fun hm => Nat.not_lt.2 (F_h0 _ hm) Yw0.lt
  have nb_Yg0_h0 : w8.heap.size ∉ bh0_0 := fun hm => Nat.not_lt.2 (F_h0 _ hm) Yg0.lt
  have G_h0 : ∀ y ∈ bh0_0, w.heap.size ≤ y := fun y hy => Nat.le_trans B.size (F_h0 y hy)
  clear F_h0
  replace Yw0 := Yw0.keep hb26
  replace Yg0 := Yg0.keep hb26
  replace w0 := w0.keep hb26
  replace x1c := x1c.keep hb26
  replace g0 := g0.keep hb26
  replace h0a1 := h0a1.keep hb26
  replace B := B.trans (hb26.mono B.size)
  clear h0a1 G_h0a1
  have Yw0a := Yw0.at.1
  have Yw0l := Yw0.lt
  have Yg0a := Yg0.at.1
  have Yg0l := Yg0.lt
  go_wp2_with fail
  clear Yw0a Yw0l Yg0a Yg0l
  have nb_Yh0_w0 : w26.heap.size ∉ bw0_0 := fun hm => Nat.lt_irrefl _ (w0.lt _ hm)
  have nb_Yh0_x1c : w26.heap.size ∉ bx1c_0 := fun hm => Nat.lt_irrefl _ (x1c.lt _ hm)
  have nb_Yh0_g0 : w26.heap.size ∉ bg0_0 := fun hm => Nat.lt_irrefl _ (g0.lt _ hm)
  have nb_Yh0_h0 : w26.heap.size ∉ bh0_0 := fun hm => Nat.lt_irrefl _ (h0.lt _ hm)
  refine Calls.at (F := fun V => Blk V (w4.heap.size) 40 #[.int .i64 r.xCode, .int .i64 r.xMirror.xQ, .slice pw0_0 r.xMirror.xViews.length cw0_0] ∧ Blk V (w8.heap.size) 40 #[.int .i64 r.xCode, .int .i64 r.xMirror.xQ, .slice pg0_0 r.xMirror.xViews.length cg0_0] ∧ Blk V (w26.heap.size) 40 #[.int .i64 r.xCode, .int .i64 r.xMirror.xQ, .slice ph0_0 r.xMirror.xViews.length ch0_0] ∧ Below w.heap.size w V ∧ OwMirrorResult V (.agg #[.int .i64 r.xCode, .int .i64 r.xMirror.xQ, .slice pw0_0 r.xMirror.xViews.length cw0_0]) r bw0_0 ∧ Ints V (.slice px1c_0 x1.length cx1c_0) (marks 1 x1.length) bx1c_0 ∧ OwMirrorResult V (.agg #[.int .i64 r.xCode, .int .i64 r.xMirror.xQ, .slice pg0_0 r.xMirror.xViews.length cg0_0]) (mkMirrorResult 1 r) bg0_0 ∧ OwMirrorResult V (.agg #[.int .i64 r.xCode, .int .i64 r.xMirror.xQ, .slice ph0_0 r.xMirror.xViews.length ch0_0]) r bh0_0) ⟨Yw0.alloc _, Yg0.alloc _, Blk.new _ _ _, B.alloc B.size _, w0.alloc _, x1c.alloc _, g0.alloc _, h0.alloc _⟩ ?_
  clear Yw0 Yg0 B w0 x1c g0 h0
  rintro V27 ⟨Yw0, Yg0, Yh0, B, w0, x1c, g0, h0⟩
  refine (eqMirrorResult_rd _ _ r _ (by exact h0.rd) (by exact w0.rd)).mono ?_
  rintro e w28 ⟨rfl, hb28⟩
  replace Yw0 := Yw0.keep hb28
  replace Yg0 := Yg0.keep hb28
  replace Yh0 := Yh0.keep hb28
  replace w0 := w0.keep hb28
  replace x1c := x1c.keep hb28
  replace g0 := g0.keep hb28
  replace h0 := h0.keep hb28
  replace B := B.trans (hb28.mono B.size)
  have Yw0a := Yw0.at.1
  have Yw0l := Yw0.lt
  have Yg0a := Yg0.at.1
  have Yg0l := Yg0.lt
  have Yh0a := Yh0.at.1
  have Yh0l := Yh0.lt
  go_wp2_with fail
  clear Yw0a Yw0l Yg0a Yg0l Yh0a Yh0l
  refine Calls.at (F := fun V => Blk V (w4.heap.size) 40 #[.int .i64 r.xCode, .int .i64 r.xMirror.xQ, .slice pw0_0 r.xMirror.xViews.length cw0_0] ∧ Blk V (w8.heap.size) 40 #[.int .i64 r.xCode, .int .i64 r.xMirror.xQ, .slice pg0_0 r.xMirror.xViews.length cg0_0] ∧ Blk V (w26.heap.size) 40 #[.int .i64 r.xCode, .int .i64 r.xMirror.xQ, .slice ph0_0 r.xMirror.xViews.length ch0_0] ∧ Below w.heap.size w V ∧ OwMirrorResult V (.agg #[.int .i64 r.xCode, .int .i64 r.xMirror.xQ, .slice pw0_0 r.xMirror.xViews.length cw0_0]) r bw0_0 ∧ Ints V (.slice px1c_0 x1.length cx1c_0) (marks 1 x1.length) bx1c_0 ∧ OwMirrorResult V (.agg #[.int .i64 r.xCode, .int .i64 r.xMirror.xQ, .slice pg0_0 r.xMirror.xViews.length cg0_0]) (mkMirrorResult 1 r) bg0_0 ∧ OwMirrorResult V (.agg #[.int .i64 r.xCode, .int .i64 r.xMirror.xQ, .slice ph0_0 r.xMirror.xViews.length ch0_0]) r bh0_0) ⟨Yw0, Yg0, Yh0, B, w0, x1c, g0, h0⟩ ?_
  clear Yw0 Yg0 Yh0 B w0 x1c g0 h0
  rintro V29 ⟨Yw0, Yg0, Yh0, B, w0, x1c, g0, h0⟩
  refine (heldMirrorResult_rd _ r _ _ (by exact g0.rd) (by omega) (by omega)).mono ?_
  rintro e w30 ⟨rfl, hb30⟩
  replace Yw0 := Yw0.keep hb30
  replace Yg0 := Yg0.keep hb30
  replace Yh0 := Yh0.keep hb30
  replace w0 := w0.keep hb30
  replace x1c := x1c.keep hb30
  replace g0 := g0.keep hb30
  replace h0 := h0.keep hb30
  replace B := B.trans (hb30.mono B.size)
  have Yw0a := Yw0.at.1
  have Yw0l := Yw0.lt
  have Yg0a := Yg0.at.1
  have Yg0l := Yg0.lt
  have Yh0a := Yh0.at.1
  have Yh0l := Yh0.lt
  go_wp2
  go_ret
  exact ⟨rfl, B⟩
/-! the row's step -/
set_option maxRecDepth 100000 in
theorem lifted (os : Os) (started : os.Started) (H : Type) (enc : TypeId × Value → H) :
    ReturnsInHanded {} Try.checked os 5 .any (Rows.fnExactMirrorOfSpec.pre6 enc Try.prog Try.f5 Rows.fnExactMirrorOfRow.domain false) (Rows.fnExactMirrorOfSpec.post enc Try.prog Try.f5 false true false false) := by
  refine returnsInHanded_of_change (C := Try.checked) own started (by kernel_rfl) Try.func5
    (ChangeSpec.witness6 (enc := enc) (C := Try.checked) false ⟨#[], #[.int .i64 0, .slice none 0 0], []⟩ 8 (by kernel_rfl) (by kernel_rfl) (by kernel_rfl) (by kernel_rfl)) ?_
  intro W base args ds gs before hval0 hW hcnd _
  have hval : ∀ (j : Nat) t v, Try.f5.params[j]? = some t → args[j]? = some v → Value.okWide Try.prog W .any base t v := hval0
  have hW' := hW
  obtain ⟨p, q, hA0, hV, rfl, hfz, hnd⟩ := hW
  have hA : DataW.TrodAll enc Try.prog W 0 (fun _ => true) true Try.f5.params.toList args.toList ds p := hA0
  rw [Try.params5] at hA hval
  obtain ⟨v0, vs0, d0, ds0, p0, q0, hargs, rfl, rfl, h0, r0⟩ := trodAll_cons hA
  obtain ⟨v1, vs1, d1, ds1, p1, q1, rfl, rfl, rfl, h1, r1⟩ := trodAll_cons r0
  obtain ⟨rfl, rfl, rfl⟩ := trodAll_nil r1
  obtain rfl : args = #[v0, v1] := by cases args; simp_all
  obtain ⟨rfl, rfl⟩ := trodVars_none hV
  obtain ⟨a0, rfl, rfl, rfl, w0⟩ := open_int Try.underlying2 (hval 0 2 v0 rfl rfl) h0
  have k1 := h1
  have lt1 : ∀ x ∈ p1, x.block < W.heap.size := by obtain ⟨m, hm⟩ := k1; exact DataW.trod_lt m _ _ _ hm
  obtain ⟨a1, len1, cap1, rfl⟩ := okWide_slice Try.underlying38 (hval 1 38 v1 rfl rfl)
  obtain ⟨x1, w1⟩ : ∃ y, Reads W .i64 (.slice a1 len1 cap1) y := by
    obtain ⟨fuel, hf⟩ := h1
    obtain ⟨v, y, e, q, _⟩ := open_Int64S hf
    obtain rfl : _ = v := by simpa [Value.cells] using e
    exact ⟨y, q⟩
  clear hA0 hval0
  refine (walk a0 _ x1 W w1 w0).mono fun e W' ⟨he, bel⟩ => ?_
  subst he
  exact ⟨_, rfl, _, _, _, [], _, [], hW', trodAll_mk1 (shut_bool Try.underlying4 _), (trodAll_cons_mk (shut_int Try.underlying2 w0) (trodAll_cons_mk (Below.trod laidOut (by kernel_rfl) (of_decide_eq_true (by kernel_rfl)) k1 bel lt1) trodAll_mk0)), rfl, bel.frame _, fun h => by cases h⟩

theorem over : Rows.fnExactMirrorOfRow.holds Try.pinned (OpenSpec.ofChange Rows.fnExactMirrorOfSpec) :=
  OpenClaim.holds_of_wide 5 Try.f5 rfl rfl rfl rfl rfl rfl rfl ⟨rfl, rfl, rfl, rfl, rfl⟩ rfl rfl rfl rfl rfl (by kernel_rfl) Try.func5 (by kernel_rfl)
    (of_decide_eq_true (by kernel_rfl)) (by unfold Func.isWrapper; first | (rw [if_pos (by decide +kernel)]; kernel_rfl) | (rw [if_neg (by decide +kernel)]; exact ⟨rfl, rfl⟩))
    (fun os started H enc _ => lifted os started H enc)

end Go.Proofs.Ytadppilldijijai.fnExactMirrorOf
namespace Go.Proofs.Ytadppilldijijai
theorem fnExactMirrorOf_holds : Rows.FnExactMirrorOfSaid := fnExactMirrorOf.over
#print axioms fnExactMirrorOf_holds
end Go.Proofs.Ytadppilldijijai
