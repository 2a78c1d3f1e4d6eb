/-
  FnExactCrossOf answers true at all whole numbers and all two lists of whole numbers: the program's CrossOf answers as its model does, and writes into no argument.
-/
import Derived.Test.YtadppilldijijakOpen
import Derived.Test.YtadppilldijijakDotC
import Derived.Test.YtadppilldijijakOpen
import Derived.Test.YtadppilldijijakOpen
import Derived.Deep.RegionHeld3
import Derived.Deep.CutRange
import Derived.Deep.Cut
import Derived.Deep.RegionWith
import Derived.ShutString
import Derived.ChangeOld
import Derived.Below
namespace Go.Proofs.Ytadppilldijijak.fnExactCrossOf
open Go.ChangeShapes Go.WideShapes Go.ChangeAt Go.RowKit
open Go.ChangeMaps (open_string shut_string)
set_option linter.unusedVariables false

theorem own : ownKnob Try.prog.godebug = none := by kernel_rfl
theorem laidOut : laidOutB Try.prog = true := by kernel_rfl

set_option maxHeartbeats 4000000 in
set_option maxRecDepth 100000 in
theorem walk (a0 : Int) (v1 : Value) (x1 : List Int) (v2 : Value) (x2 : List Int) (a3 : Int) (a4 : Int) (w : World) (r1 : Reads w .i64 (v1) x1) (r2 : Reads w .i64 (v2) x2) (w0 : (Lit.int .i64 a0).wf = true) (w3 : (Lit.int .i64 a3).wf = true) (w4 : (Lit.int .i64 a4).wf = true) :
    Calls Try.prog 7 #[.int .i64 a0, v1, v2, .int .i64 a3, .int .i64 a4] w fun e w' => e = .returned (.bool true) ∧ Below w.heap.size w w' := by
  obtain ⟨p1_0, c1_0, hv1⟩ : ∃ p c, v1 = .slice p x1.length c := Reads.shp r1
  subst hv1
  obtain ⟨p2_0, c2_0, hv2⟩ : ∃ p c, v2 = .slice p x2.length c := Reads.shp r2
  subst hv2
  by_cases hl1 : 1048576 < x1.length
  · have hm := Reads.le r1
    unfold maxLen at hm
    go_enter Try.func7, Try.ntmps7
    go_wp2
    go_ret
    exact ⟨rfl, (by repeat (first | exact Below.refl _ _ | refine Below.drew ?_ | refine below_drewN ?_ _ | refine Below.setCell ?_ (by first | omega | (simp; done) | (simp; omega)) _ | refine Below.alloc ?_ (by first | omega | (simp; done) | (simp; omega)) _))⟩
  by_cases hl2 : 1048576 < x2.length
  · have hm := Reads.le r2
    unfold maxLen at hm
    go_enter Try.func7, Try.ntmps7
    go_wp2
    go_ret
    exact ⟨rfl, (by repeat (first | exact Below.refl _ _ | refine Below.drew ?_ | refine below_drewN ?_ _ | refine Below.setCell ?_ (by first | omega | (simp; done) | (simp; omega)) _ | refine Below.alloc ?_ (by first | omega | (simp; done) | (simp; omega)) _))⟩
  have KS : ∀ (V : World) (u1 : Value) (u2 : Value), Reads V .i64 (u1) x1 → Reads V .i64 (u2) x2 → Calls Try.prog 27 #[.int .i64 a0, u1, u2, .int .i64 a3, .int .i64 a4] V fun e V' => ∃ u, e = .returned u ∧ RdIntResult V' u (crossR a0 x1 x2 a3 a4) ∧ Below V.heap.size V V' := fun V u1 u2 h1 h2 => spec_CrossOf _ _ _ _ _ _ _ _ h1 h2
  have KI : ∀ (V : World) (u1 : Value) (u2 : Value), Reads V .i64 (u1) x1 → Reads V .i64 (u2) x2 → Calls Try.prog 29 #[.int .i64 a0, u1, u2, .int .i64 a3, .int .i64 a4] V fun e V' => ∃ u, e = .returned u ∧ RdIntResult V' u (crossR a0 x1 x2 a3 a4) ∧ Below V.heap.size V V' := fun V u1 u2 h1 h2 => impl_CrossOf _ _ _ _ _ _ _ _ h1 h2
  obtain ⟨r, HS, HI⟩ : ∃ r : MIntResult, Hid (∀ (V : World) (u1 : Value) (u2 : Value), Reads V .i64 (u1) x1 → Reads V .i64 (u2) x2 → Calls Try.prog 27 #[.int .i64 a0, u1, u2, .int .i64 a3, .int .i64 a4] V fun e V' => ∃ u, e = .returned u ∧ RdIntResult V' u r ∧ Below V.heap.size V V') ∧ Hid (∀ (V : World) (u1 : Value) (u2 : Value), Reads V .i64 (u1) x1 → Reads V .i64 (u2) x2 → Calls Try.prog 29 #[.int .i64 a0, u1, u2, .int .i64 a3, .int .i64 a4] V fun e V' => ∃ u, e = .returned u ∧ RdIntResult V' u r ∧ Below V.heap.size V V') := ⟨crossR a0 x1 x2 a3 a4, KS, KI⟩
  clear KS KI
  go_enter Try.func7, Try.ntmps7
  go_wp2_with fail
  refine Calls.at (F := fun V => Below w.heap.size w V) (Below.refl _ _) ?_
  rintro V1 B
  refine (toInt64S_ow _ x1 _ (by exact r1.below B) (by omega)).mono ?_
  rintro e w2 ⟨u, bw0a1_0, rfl, w0a1, fw0a1_0, hb2⟩
  obtain ⟨pw0a1_0, cw0a1_0, rfl⟩ := Ints.value w0a1
  have F_w0a1 : ∀ y ∈ bw0a1_0, V1.heap.size ≤ y := fw0a1_0
  have G_w0a1 : ∀ y ∈ bw0a1_0, w.heap.size ≤ y := fun y hy => Nat.le_trans B.size (F_w0a1 y hy)
  clear F_w0a1
  replace B := B.trans (hb2.mono B.size)
  go_wp2_with fail
  refine Calls.at (F := fun V => Below w.heap.size w V ∧ Ints V (.slice pw0a1_0 x1.length cw0a1_0) x1 bw0a1_0) ⟨B, w0a1⟩ ?_
  clear B w0a1
  rintro V3 ⟨B, w0a1⟩
  refine (toInt64S_ow _ x2 _ (by exact r2.below B) (by omega)).mono ?_
  rintro e w4 ⟨u, bw0a2_0, rfl, w0a2, fw0a2_0, hb4⟩
  obtain ⟨pw0a2_0, cw0a2_0, rfl⟩ := Ints.value w0a2
  have F_w0a2 : ∀ y ∈ bw0a2_0, V3.heap.size ≤ y := fw0a2_0
  have dj_w0a1_w0a2 : Dj bw0a1_0 bw0a2_0 := fun y hy hm => Nat.not_lt.2 (F_w0a2 y hm) (w0a1.lt y hy)
  have G_w0a2 : ∀ y ∈ bw0a2_0, w.heap.size ≤ y := fun y hy => Nat.le_trans B.size (F_w0a2 y hy)
  clear F_w0a2
  replace w0a1 := w0a1.keep hb4
  replace B := B.trans (hb4.mono B.size)
  go_wp2_with fail
  refine Calls.at (F := fun V => Below w.heap.size w V ∧ Ints V (.slice pw0a1_0 x1.length cw0a1_0) x1 bw0a1_0 ∧ Ints V (.slice pw0a2_0 x2.length cw0a2_0) x2 bw0a2_0) ⟨B, w0a1, w0a2⟩ ?_
  clear B w0a1 w0a2
  rintro V5 ⟨B, w0a1, w0a2⟩
  refine (HS.out _ _ _ (by exact Ints.reads w0a1) (by exact Ints.reads w0a2)).mono ?_
  rintro e w6 ⟨u, rfl, hu, hb6⟩
  unfold RdIntResult at hu
  subst hu
  replace w0a1 := w0a1.keep hb6
  replace w0a2 := w0a2.keep hb6
  replace B := B.trans (hb6.mono B.size)
  clear w0a1 G_w0a1
  clear w0a2 G_w0a2
  go_wp2_with fail
  refine Calls.at (F := fun V => Blk V (w6.heap.size) 54 #[.int .i64 r.xCode, .int .i64 r.xValue] ∧ Below w.heap.size w V) ⟨Blk.new _ _ _, B.alloc B.size _⟩ ?_
  clear B
  rintro V7 ⟨Yw0, B⟩
  refine (toInt64S_ow _ x1 _ (by exact r1.below B) (by omega)).mono ?_
  rintro e w8 ⟨u, bx1c_0, rfl, x1c, fx1c_0, hb8⟩
  obtain ⟨px1c_0, cx1c_0, rfl⟩ := Ints.value x1c
  have F_x1c : ∀ y ∈ bx1c_0, V7.heap.size ≤ y := fx1c_0
  have nb_Yw0_x1c : w6.heap.size ∉ bx1c_0 := fun hm => Nat.not_lt.2 (F_x1c _ hm) Yw0.lt
  have G_x1c : ∀ y ∈ bx1c_0, w.heap.size ≤ y := fun y hy => Nat.le_trans B.size (F_x1c y hy)
  clear F_x1c
  replace Yw0 := Yw0.keep hb8
  replace B := B.trans (hb8.mono B.size)
  have Yw0a := Yw0.at.1
  have Yw0l := Yw0.lt
  go_wp2_with fail
  clear Yw0a Yw0l
  refine Calls.at (F := fun V => Blk V (w6.heap.size) 54 #[.int .i64 r.xCode, .int .i64 r.xValue] ∧ Below w.heap.size w V ∧ Ints V (.slice px1c_0 x1.length cx1c_0) x1 bx1c_0) ⟨Yw0, B, x1c⟩ ?_
  clear Yw0 B x1c
  rintro V9 ⟨Yw0, B, x1c⟩
  refine (toInt64S_ow _ x2 _ (by exact r2.below B) (by omega)).mono ?_
  rintro e w10 ⟨u, bx2c_0, rfl, x2c, fx2c_0, hb10⟩
  obtain ⟨px2c_0, cx2c_0, rfl⟩ := Ints.value x2c
  have F_x2c : ∀ y ∈ bx2c_0, V9.heap.size ≤ y := fx2c_0
  have dj_x1c_x2c : Dj bx1c_0 bx2c_0 := fun y hy hm => Nat.not_lt.2 (F_x2c y hm) (x1c.lt y hy)
  have nb_Yw0_x2c : w6.heap.size ∉ bx2c_0 := fun hm => Nat.not_lt.2 (F_x2c _ hm) Yw0.lt
  have G_x2c : ∀ y ∈ bx2c_0, w.heap.size ≤ y := fun y hy => Nat.le_trans B.size (F_x2c y hy)
  clear F_x2c
  replace Yw0 := Yw0.keep hb10
  replace x1c := x1c.keep hb10
  replace B := B.trans (hb10.mono B.size)
  have Yw0a := Yw0.at.1
  have Yw0l := Yw0.lt
  go_wp2_with fail
  clear Yw0a Yw0l
  refine Calls.at (F := fun V => Blk V (w6.heap.size) 54 #[.int .i64 r.xCode, .int .i64 r.xValue] ∧ Below w.heap.size w V ∧ Ints V (.slice px1c_0 x1.length cx1c_0) x1 bx1c_0 ∧ Ints V (.slice px2c_0 x2.length cx2c_0) x2 bx2c_0) ⟨Yw0, B, x1c, x2c⟩ ?_
  clear Yw0 B x1c x2c
  rintro V11 ⟨Yw0, B, x1c, x2c⟩
  refine (HI.out _ _ _ (by exact Ints.reads x1c) (by exact Ints.reads x2c)).mono ?_
  rintro e w12 ⟨u, rfl, hu, hb12⟩
  unfold RdIntResult at hu
  subst hu
  replace Yw0 := Yw0.keep hb12
  replace x1c := x1c.keep hb12
  replace x2c := x2c.keep hb12
  replace B := B.trans (hb12.mono B.size)
  have Yw0a := Yw0.at.1
  have Yw0l := Yw0.lt
  go_wp2_with fail
  clear Yw0a Yw0l
  have nb_Yg0_x1c : w12.heap.size ∉ bx1c_0 := fun hm => Nat.lt_irrefl _ (x1c.lt _ hm)
  have nb_Yg0_x2c : w12.heap.size ∉ bx2c_0 := fun hm => Nat.lt_irrefl _ (x2c.lt _ hm)
  refine Calls.at (F := fun V => Blk V (w6.heap.size) 54 #[.int .i64 r.xCode, .int .i64 r.xValue] ∧ Blk V (w12.heap.size) 54 #[.int .i64 r.xCode, .int .i64 r.xValue] ∧ Below w.heap.size w V ∧ Ints V (.slice px1c_0 x1.length cx1c_0) x1 bx1c_0 ∧ Ints V (.slice px2c_0 x2.length cx2c_0) x2 bx2c_0) ⟨Yw0.alloc _, Blk.new _ _ _, B.alloc B.size _, x1c.alloc _, x2c.alloc _⟩ ?_
  clear Yw0 B x1c x2c
  rintro V13 ⟨Yw0, Yg0, B, x1c, x2c⟩
  refine (eqIntResult_rd _ _ r _ (by exact rfl) (by exact rfl)).mono ?_
  rintro e w14 ⟨rfl, hb14⟩
  replace Yw0 := Yw0.keep hb14
  replace Yg0 := Yg0.keep hb14
  replace x1c := x1c.keep hb14
  replace x2c := x2c.keep hb14
  replace B := B.trans (hb14.mono B.size)
  have Yw0a := Yw0.at.1
  have Yw0l := Yw0.lt
  have Yg0a := Yg0.at.1
  have Yg0l := Yg0.lt
  go_wp2_with fail
  clear Yw0a Yw0l Yg0a Yg0l
  refine Calls.at (F := fun V => Blk V (w6.heap.size) 54 #[.int .i64 r.xCode, .int .i64 r.xValue] ∧ Blk V (w12.heap.size) 54 #[.int .i64 r.xCode, .int .i64 r.xValue] ∧ Below w.heap.size w V ∧ Ints V (.slice px1c_0 x1.length cx1c_0) x1 bx1c_0 ∧ Ints V (.slice px2c_0 x2.length cx2c_0) x2 bx2c_0) ⟨Yw0, Yg0, B, x1c, x2c⟩ ?_
  clear Yw0 Yg0 B x1c x2c
  rintro V15 ⟨Yw0, Yg0, B, x1c, x2c⟩
  refine (toInt64S_ow _ x1 _ (by exact r1.below B) (by omega)).mono ?_
  rintro e w16 ⟨u, by1_0, rfl, y1, fy1_0, hb16⟩
  obtain ⟨py1_0, cy1_0, rfl⟩ := Ints.value y1
  have F_y1 : ∀ y ∈ by1_0, V15.heap.size ≤ y := fy1_0
  have dj_x1c_y1 : Dj bx1c_0 by1_0 := fun y hy hm => Nat.not_lt.2 (F_y1 y hm) (x1c.lt y hy)
  have dj_x2c_y1 : Dj bx2c_0 by1_0 := fun y hy hm => Nat.not_lt.2 (F_y1 y hm) (x2c.lt y hy)
  have nb_Yw0_y1 : w6.heap.size ∉ by1_0 := fun hm => Nat.not_lt.2 (F_y1 _ hm) Yw0.lt
  have nb_Yg0_y1 : w12.heap.size ∉ by1_0 := fun hm => Nat.not_lt.2 (F_y1 _ hm) Yg0.lt
  have G_y1 : ∀ y ∈ by1_0, w.heap.size ≤ y := fun y hy => Nat.le_trans B.size (F_y1 y hy)
  clear F_y1
  replace Yw0 := Yw0.keep hb16
  replace Yg0 := Yg0.keep hb16
  replace x1c := x1c.keep hb16
  replace x2c := x2c.keep hb16
  replace B := B.trans (hb16.mono B.size)
  have Yw0a := Yw0.at.1
  have Yw0l := Yw0.lt
  have Yg0a := Yg0.at.1
  have Yg0l := Yg0.lt
  go_wp2_with fail
  clear Yw0a Yw0l Yg0a Yg0l
  refine Calls.at (F := fun V => Blk V (w6.heap.size) 54 #[.int .i64 r.xCode, .int .i64 r.xValue] ∧ Blk V (w12.heap.size) 54 #[.int .i64 r.xCode, .int .i64 r.xValue] ∧ Below w.heap.size w V ∧ Ints V (.slice px1c_0 x1.length cx1c_0) x1 bx1c_0 ∧ Ints V (.slice px2c_0 x2.length cx2c_0) x2 bx2c_0 ∧ Ints V (.slice py1_0 x1.length cy1_0) x1 by1_0) ⟨Yw0, Yg0, B, x1c, x2c, y1⟩ ?_
  clear Yw0 Yg0 B x1c x2c y1
  rintro V17 ⟨Yw0, Yg0, B, x1c, x2c, y1⟩
  refine (eqInt64S_rd _ _ x1 _ (by exact Ints.reads x1c) (by exact Ints.reads y1)).mono ?_
  rintro e w18 ⟨rfl, hb18⟩
  replace Yw0 := Yw0.keep hb18
  replace Yg0 := Yg0.keep hb18
  replace x1c := x1c.keep hb18
  replace x2c := x2c.keep hb18
  replace y1 := y1.keep hb18
  replace B := B.trans (hb18.mono B.size)
  clear y1 G_y1
  have Yw0a := Yw0.at.1
  have Yw0l := Yw0.lt
  have Yg0a := Yg0.at.1
  have Yg0l := Yg0.lt
  go_wp2_with fail
  clear Yw0a Yw0l Yg0a Yg0l
  refine Calls.at (F := fun V => Blk V (w6.heap.size) 54 #[.int .i64 r.xCode, .int .i64 r.xValue] ∧ Blk V (w12.heap.size) 54 #[.int .i64 r.xCode, .int .i64 r.xValue] ∧ Below w.heap.size w V ∧ Ints V (.slice px1c_0 x1.length cx1c_0) x1 bx1c_0 ∧ Ints V (.slice px2c_0 x2.length cx2c_0) x2 bx2c_0) ⟨Yw0, Yg0, B, x1c, x2c⟩ ?_
  clear Yw0 Yg0 B x1c x2c
  rintro V19 ⟨Yw0, Yg0, B, x1c, x2c⟩
  refine (toInt64S_ow _ x2 _ (by exact r2.below B) (by omega)).mono ?_
  rintro e w20 ⟨u, by2_0, rfl, y2, fy2_0, hb20⟩
  obtain ⟨py2_0, cy2_0, rfl⟩ := Ints.value y2
  have F_y2 : ∀ y ∈ by2_0, V19.heap.size ≤ y := fy2_0
  have dj_x1c_y2 : Dj bx1c_0 by2_0 := fun y hy hm => Nat.not_lt.2 (F_y2 y hm) (x1c.lt y hy)
  have dj_x2c_y2 : Dj bx2c_0 by2_0 := fun y hy hm => Nat.not_lt.2 (F_y2 y hm) (x2c.lt y hy)
  have nb_Yw0_y2 : w6.heap.size ∉ by2_0 := fun hm => Nat.not_lt.2 (F_y2 _ hm) Yw0.lt
  have nb_Yg0_y2 : w12.heap.size ∉ by2_0 := fun hm => Nat.not_lt.2 (F_y2 _ hm) Yg0.lt
  have G_y2 : ∀ y ∈ by2_0, w.heap.size ≤ y := fun y hy => Nat.le_trans B.size (F_y2 y hy)
  clear F_y2
  replace Yw0 := Yw0.keep hb20
  replace Yg0 := Yg0.keep hb20
  replace x1c := x1c.keep hb20
  replace x2c := x2c.keep hb20
  replace B := B.trans (hb20.mono B.size)
  have Yw0a := Yw0.at.1
  have Yw0l := Yw0.lt
  have Yg0a := Yg0.at.1
  have Yg0l := Yg0.lt
  go_wp2_with fail
  clear Yw0a Yw0l Yg0a Yg0l
  refine Calls.at (F := fun V => Blk V (w6.heap.size) 54 #[.int .i64 r.xCode, .int .i64 r.xValue] ∧ Blk V (w12.heap.size) 54 #[.int .i64 r.xCode, .int .i64 r.xValue] ∧ Below w.heap.size w V ∧ Ints V (.slice px1c_0 x1.length cx1c_0) x1 bx1c_0 ∧ Ints V (.slice px2c_0 x2.length cx2c_0) x2 bx2c_0 ∧ Ints V (.slice py2_0 x2.length cy2_0) x2 by2_0) ⟨Yw0, Yg0, B, x1c, x2c, y2⟩ ?_
  clear Yw0 Yg0 B x1c x2c y2
  rintro V21 ⟨Yw0, Yg0, B, x1c, x2c, y2⟩
  refine (eqInt64S_rd _ _ x2 _ (by exact Ints.reads x2c) (by exact Ints.reads y2)).mono ?_
  rintro e w22 ⟨rfl, hb22⟩
  replace Yw0 := Yw0.keep hb22
  replace Yg0 := Yg0.keep hb22
  replace x1c := x1c.keep hb22
  replace x2c := x2c.keep hb22
  replace y2 := y2.keep hb22
  replace B := B.trans (hb22.mono B.size)
  clear y2 G_y2
  have Yw0a := Yw0.at.1
  have Yw0l := Yw0.lt
  have Yg0a := Yg0.at.1
  have Yg0l := Yg0.lt
  go_wp2
  go_ret
  exact ⟨rfl, B⟩
/-! the row's step -/
set_option maxRecDepth 100000 in
theorem lifted (os : Os) (started : os.Started) (H : Type) (enc : TypeId × Value → H) :
    ReturnsInHanded {} Try.checked os 7 .any (Rows.fnExactCrossOfSpec.pre6 enc Try.prog Try.f7 Rows.fnExactCrossOfRow.domain false) (Rows.fnExactCrossOfSpec.post enc Try.prog Try.f7 false true false false) := by
  refine returnsInHanded_of_change (C := Try.checked) own started (by kernel_rfl) Try.func7
    (ChangeSpec.witness6 (enc := enc) (C := Try.checked) false ⟨#[], #[.int .i64 0, .slice none 0 0, .slice none 0 0, .int .i64 0, .int .i64 0], []⟩ 8 (by kernel_rfl) (by kernel_rfl) (by kernel_rfl) (by kernel_rfl)) ?_
  intro W base args ds gs before hval0 hW hcnd _
  have hval : ∀ (j : Nat) t v, Try.f7.params[j]? = some t → args[j]? = some v → Value.okWide Try.prog W .any base t v := hval0
  have hW' := hW
  obtain ⟨p, q, hA0, hV, rfl, hfz, hnd⟩ := hW
  have hA : DataW.TrodAll enc Try.prog W 0 (fun _ => true) true Try.f7.params.toList args.toList ds p := hA0
  rw [Try.params7] at hA hval
  obtain ⟨v0, vs0, d0, ds0, p0, q0, hargs, rfl, rfl, h0, r0⟩ := trodAll_cons hA
  obtain ⟨v1, vs1, d1, ds1, p1, q1, rfl, rfl, rfl, h1, r1⟩ := trodAll_cons r0
  obtain ⟨v2, vs2, d2, ds2, p2, q2, rfl, rfl, rfl, h2, r2⟩ := trodAll_cons r1
  obtain ⟨v3, vs3, d3, ds3, p3, q3, rfl, rfl, rfl, h3, r3⟩ := trodAll_cons r2
  obtain ⟨v4, vs4, d4, ds4, p4, q4, rfl, rfl, rfl, h4, r4⟩ := trodAll_cons r3
  obtain ⟨rfl, rfl, rfl⟩ := trodAll_nil r4
  obtain rfl : args = #[v0, v1, v2, v3, v4] := by cases args; simp_all
  obtain ⟨rfl, rfl⟩ := trodVars_none hV
  obtain ⟨a0, rfl, rfl, rfl, w0⟩ := open_int Try.underlying2 (hval 0 2 v0 rfl rfl) h0
  have k1 := h1
  have lt1 : ∀ x ∈ p1, x.block < W.heap.size := by obtain ⟨m, hm⟩ := k1; exact DataW.trod_lt m _ _ _ hm
  obtain ⟨a1, len1, cap1, rfl⟩ := okWide_slice Try.underlying25 (hval 1 25 v1 rfl rfl)
  obtain ⟨x1, w1⟩ : ∃ y, Reads W .i64 (.slice a1 len1 cap1) y := by
    obtain ⟨fuel, hf⟩ := h1
    obtain ⟨v, y, e, q, _⟩ := open_Int64S hf
    obtain rfl : _ = v := by simpa [Value.cells] using e
    exact ⟨y, q⟩
  have k2 := h2
  have lt2 : ∀ x ∈ p2, x.block < W.heap.size := by obtain ⟨m, hm⟩ := k2; exact DataW.trod_lt m _ _ _ hm
  obtain ⟨a2, len2, cap2, rfl⟩ := okWide_slice Try.underlying25 (hval 2 25 v2 rfl rfl)
  obtain ⟨x2, w2⟩ : ∃ y, Reads W .i64 (.slice a2 len2 cap2) y := by
    obtain ⟨fuel, hf⟩ := h2
    obtain ⟨v, y, e, q, _⟩ := open_Int64S hf
    obtain rfl : _ = v := by simpa [Value.cells] using e
    exact ⟨y, q⟩
  obtain ⟨a3, rfl, rfl, rfl, w3⟩ := open_int Try.underlying2 (hval 3 2 v3 rfl rfl) h3
  obtain ⟨a4, rfl, rfl, rfl, w4⟩ := open_int Try.underlying2 (hval 4 2 v4 rfl rfl) h4
  clear hA0 hval0
  refine (walk a0 _ x1 _ x2 a3 a4 W w1 w2 w0 w3 w4).mono fun e W' ⟨he, bel⟩ => ?_
  subst he
  exact ⟨_, rfl, _, _, _, [], _, [], hW', trodAll_mk1 (shut_bool Try.underlying4 _), (trodAll_cons_mk (shut_int Try.underlying2 w0) (trodAll_cons_mk (Below.trod laidOut (by kernel_rfl) (of_decide_eq_true (by kernel_rfl)) k1 bel lt1) (trodAll_cons_mk (Below.trod laidOut (by kernel_rfl) (of_decide_eq_true (by kernel_rfl)) k2 bel lt2) (trodAll_cons_mk (shut_int Try.underlying2 w3) (trodAll_cons_mk (shut_int Try.underlying2 w4) trodAll_mk0))))), rfl, bel.frame _, fun h => by cases h⟩

theorem over : Rows.fnExactCrossOfRow.holds Try.pinned (OpenSpec.ofChange Rows.fnExactCrossOfSpec) :=
  OpenClaim.holds_of_wide 7 Try.f7 rfl rfl rfl rfl rfl rfl rfl ⟨rfl, rfl, rfl, rfl, rfl⟩ rfl rfl rfl rfl rfl (by kernel_rfl) Try.func7 (by kernel_rfl)
    (of_decide_eq_true (by kernel_rfl)) (by unfold Func.isWrapper; first | (rw [if_pos (by decide +kernel)]; kernel_rfl) | (rw [if_neg (by decide +kernel)]; exact ⟨rfl, rfl⟩))
    (fun os started H enc _ => lifted os started H enc)

end Go.Proofs.Ytadppilldijijak.fnExactCrossOf
namespace Go.Proofs.Ytadppilldijijak
theorem fnExactCrossOf_holds : Rows.FnExactCrossOfSaid := fnExactCrossOf.over
#print axioms fnExactCrossOf_holds
end Go.Proofs.Ytadppilldijijak
