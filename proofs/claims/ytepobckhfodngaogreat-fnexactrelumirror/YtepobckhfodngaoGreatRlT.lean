/-
  What becomes 0 below 0, in the model: ReluMirror.
-/
import Derived.Test.YtepobckhfodngaoGreatRlS
import Derived.Test.YtepobckhfodngaoGreatSgT
namespace Go.Proofs.YtepobckhfodngaoGreat
open Go.ChangeShapes Go.WideShapes Go.ChangeAt Go.RowKit
set_option linter.unusedVariables false
set_option maxHeartbeats 8000000 in
set_option maxRecDepth 100000 in
theorem spec_ReluMirror (vv : Value) (x : MNet) (va : Value) (a : MMirror) (w : World) (hv : RdNet w vv x) (hx : Fit x) (ra : RdMirror w va a) :
    Calls Tryz.prog 7 #[vv, va] w fun e w' => OutMix w w' (rlR x a) e := by
  have KC := fun W (hb : Below w.heap.size w W) => spec_l4CopyT vv x W (hv.below hb) hx
  obtain ⟨p0, c0, p1, c1, p2, c2, rfl, g0, g1, g2⟩ := hv
  obtain ⟨pa, ca, rfl, ga⟩ := ra
  have B0 : Below w.heap.size w (((w.alloc (.cells #[.slice p0 x.xTape.length c0, .slice p1 x.xUsed.length c1, .int .i64 x.xSent, .slice p2 x.xHeard.length c2, .int .i64 x.xCheat.xWho, .int .i64 x.xCheat.xAt, .int .i64 x.xCheat.xBy, .bool x.xCheat.xCry, .bool x.xQuarrel.xSome, .int .i64 x.xQuarrel.xFrom, .int .i64 x.xQuarrel.xCheck, .int .i64 x.xQuarrel.xTo, .int .i64 x.xQuarrel.xTold, .int .i64 x.xQuarrel.xHeard, .int .i64 x.xQuarrel.xOther, .int .i64 x.xQuarrel.xVowed] 41)).alloc (.cells #[.int .i64 a.xQ, .slice pa a.xViews.length ca] 36)).alloc (.cells #[.int .i64 0, .int .i64 0, .slice none 0 0, .slice none 0 0, .slice none 0 0, .int .i64 0, .slice none 0 0, .int .i64 0, .int .i64 0, .int .i64 0, .bool false, .bool false, .int .i64 0, .int .i64 0, .int .i64 0, .int .i64 0, .int .i64 0, .int .i64 0, .int .i64 0] 43)) := (by repeat (first | exact Below.refl _ _ | refine Below.drew ?_ | refine below_drewN ?_ _ | refine Below.setCell ?_ (by first | omega | (simp; done) | (simp; omega)) _ | refine Below.alloc ?_ (by first | omega | (simp; done) | (simp; omega)) _))
  have X0 : Blk (((w.alloc (.cells #[.slice p0 x.xTape.length c0, .slice p1 x.xUsed.length c1, .int .i64 x.xSent, .slice p2 x.xHeard.length c2, .int .i64 x.xCheat.xWho, .int .i64 x.xCheat.xAt, .int .i64 x.xCheat.xBy, .bool x.xCheat.xCry, .bool x.xQuarrel.xSome, .int .i64 x.xQuarrel.xFrom, .int .i64 x.xQuarrel.xCheck, .int .i64 x.xQuarrel.xTo, .int .i64 x.xQuarrel.xTold, .int .i64 x.xQuarrel.xHeard, .int .i64 x.xQuarrel.xOther, .int .i64 x.xQuarrel.xVowed] 41)).alloc (.cells #[.int .i64 a.xQ, .slice pa a.xViews.length ca] 36)).alloc (.cells #[.int .i64 0, .int .i64 0, .slice none 0 0, .slice none 0 0, .slice none 0 0, .int .i64 0, .slice none 0 0, .int .i64 0, .int .i64 0, .int .i64 0, .bool false, .bool false, .int .i64 0, .int .i64 0, .int .i64 0, .int .i64 0, .int .i64 0, .int .i64 0, .int .i64 0] 43)) w.heap.size 41 #[.slice p0 x.xTape.length c0, .slice p1 x.xUsed.length c1, .int .i64 x.xSent, .slice p2 x.xHeard.length c2, .int .i64 x.xCheat.xWho, .int .i64 x.xCheat.xAt, .int .i64 x.xCheat.xBy, .bool x.xCheat.xCry, .bool x.xQuarrel.xSome, .int .i64 x.xQuarrel.xFrom, .int .i64 x.xQuarrel.xCheck, .int .i64 x.xQuarrel.xTo, .int .i64 x.xQuarrel.xTold, .int .i64 x.xQuarrel.xHeard, .int .i64 x.xQuarrel.xOther, .int .i64 x.xQuarrel.xVowed] := ((Blk.new w _ _).alloc _).alloc _
  have XA0 : Blk (((w.alloc (.cells #[.slice p0 x.xTape.length c0, .slice p1 x.xUsed.length c1, .int .i64 x.xSent, .slice p2 x.xHeard.length c2, .int .i64 x.xCheat.xWho, .int .i64 x.xCheat.xAt, .int .i64 x.xCheat.xBy, .bool x.xCheat.xCry, .bool x.xQuarrel.xSome, .int .i64 x.xQuarrel.xFrom, .int .i64 x.xQuarrel.xCheck, .int .i64 x.xQuarrel.xTo, .int .i64 x.xQuarrel.xTold, .int .i64 x.xQuarrel.xHeard, .int .i64 x.xQuarrel.xOther, .int .i64 x.xQuarrel.xVowed] 41)).alloc (.cells #[.int .i64 a.xQ, .slice pa a.xViews.length ca] 36)).alloc (.cells #[.int .i64 0, .int .i64 0, .slice none 0 0, .slice none 0 0, .slice none 0 0, .int .i64 0, .slice none 0 0, .int .i64 0, .int .i64 0, .int .i64 0, .bool false, .bool false, .int .i64 0, .int .i64 0, .int .i64 0, .int .i64 0, .int .i64 0, .int .i64 0, .int .i64 0] 43)) (w.heap.size + 1) 36 #[.int .i64 a.xQ, .slice pa a.xViews.length ca] := by simpa using (Blk.new (w.alloc (.cells #[.slice p0 x.xTape.length c0, .slice p1 x.xUsed.length c1, .int .i64 x.xSent, .slice p2 x.xHeard.length c2, .int .i64 x.xCheat.xWho, .int .i64 x.xCheat.xAt, .int .i64 x.xCheat.xBy, .bool x.xCheat.xCry, .bool x.xQuarrel.xSome, .int .i64 x.xQuarrel.xFrom, .int .i64 x.xQuarrel.xCheck, .int .i64 x.xQuarrel.xTo, .int .i64 x.xQuarrel.xTold, .int .i64 x.xQuarrel.xHeard, .int .i64 x.xQuarrel.xOther, .int .i64 x.xQuarrel.xVowed] 41)) 36 #[.int .i64 a.xQ, .slice pa a.xViews.length ca]).alloc (.cells #[.int .i64 0, .int .i64 0, .slice none 0 0, .slice none 0 0, .slice none 0 0, .int .i64 0, .slice none 0 0, .int .i64 0, .int .i64 0, .int .i64 0, .bool false, .bool false, .int .i64 0, .int .i64 0, .int .i64 0, .int .i64 0, .int .i64 0, .int .i64 0, .int .i64 0] 43)
  have Y0 : Blk (((w.alloc (.cells #[.slice p0 x.xTape.length c0, .slice p1 x.xUsed.length c1, .int .i64 x.xSent, .slice p2 x.xHeard.length c2, .int .i64 x.xCheat.xWho, .int .i64 x.xCheat.xAt, .int .i64 x.xCheat.xBy, .bool x.xCheat.xCry, .bool x.xQuarrel.xSome, .int .i64 x.xQuarrel.xFrom, .int .i64 x.xQuarrel.xCheck, .int .i64 x.xQuarrel.xTo, .int .i64 x.xQuarrel.xTold, .int .i64 x.xQuarrel.xHeard, .int .i64 x.xQuarrel.xOther, .int .i64 x.xQuarrel.xVowed] 41)).alloc (.cells #[.int .i64 a.xQ, .slice pa a.xViews.length ca] 36)).alloc (.cells #[.int .i64 0, .int .i64 0, .slice none 0 0, .slice none 0 0, .slice none 0 0, .int .i64 0, .slice none 0 0, .int .i64 0, .int .i64 0, .int .i64 0, .bool false, .bool false, .int .i64 0, .int .i64 0, .int .i64 0, .int .i64 0, .int .i64 0, .int .i64 0, .int .i64 0] 43)) (w.heap.size + 2) 43 #[.int .i64 0, .int .i64 0, .slice none 0 0, .slice none 0 0, .slice none 0 0, .int .i64 0, .slice none 0 0, .int .i64 0, .int .i64 0, .int .i64 0, .bool false, .bool false, .int .i64 0, .int .i64 0, .int .i64 0, .int .i64 0, .int .i64 0, .int .i64 0, .int .i64 0] := by simpa using Blk.new ((w.alloc (.cells #[.slice p0 x.xTape.length c0, .slice p1 x.xUsed.length c1, .int .i64 x.xSent, .slice p2 x.xHeard.length c2, .int .i64 x.xCheat.xWho, .int .i64 x.xCheat.xAt, .int .i64 x.xCheat.xBy, .bool x.xCheat.xCry, .bool x.xQuarrel.xSome, .int .i64 x.xQuarrel.xFrom, .int .i64 x.xQuarrel.xCheck, .int .i64 x.xQuarrel.xTo, .int .i64 x.xQuarrel.xTold, .int .i64 x.xQuarrel.xHeard, .int .i64 x.xQuarrel.xOther, .int .i64 x.xQuarrel.xVowed] 41)).alloc (.cells #[.int .i64 a.xQ, .slice pa a.xViews.length ca] 36)) 43 #[.int .i64 0, .int .i64 0, .slice none 0 0, .slice none 0 0, .slice none 0 0, .int .i64 0, .slice none 0 0, .int .i64 0, .int .i64 0, .int .i64 0, .bool false, .bool false, .int .i64 0, .int .i64 0, .int .i64 0, .int .i64 0, .int .i64 0, .int .i64 0, .int .i64 0]
  have sz0 : Hid ((((w.alloc (.cells #[.slice p0 x.xTape.length c0, .slice p1 x.xUsed.length c1, .int .i64 x.xSent, .slice p2 x.xHeard.length c2, .int .i64 x.xCheat.xWho, .int .i64 x.xCheat.xAt, .int .i64 x.xCheat.xBy, .bool x.xCheat.xCry, .bool x.xQuarrel.xSome, .int .i64 x.xQuarrel.xFrom, .int .i64 x.xQuarrel.xCheck, .int .i64 x.xQuarrel.xTo, .int .i64 x.xQuarrel.xTold, .int .i64 x.xQuarrel.xHeard, .int .i64 x.xQuarrel.xOther, .int .i64 x.xQuarrel.xVowed] 41)).alloc (.cells #[.int .i64 a.xQ, .slice pa a.xViews.length ca] 36)).alloc (.cells #[.int .i64 0, .int .i64 0, .slice none 0 0, .slice none 0 0, .slice none 0 0, .int .i64 0, .slice none 0 0, .int .i64 0, .int .i64 0, .int .i64 0, .bool false, .bool false, .int .i64 0, .int .i64 0, .int .i64 0, .int .i64 0, .int .i64 0, .int .i64 0, .int .i64 0] 43)).heap.size = w.heap.size + 3) := by show _ = _; simp
  have KQ := spec_l8Asked w.heap.size (w.heap.size + 1) x p0 p1 p2 c0 c1 c2 a pa ca _ X0 (g0.below B0) (g1.below B0) (g2.below B0) XA0 (ga.below B0)
  clear g0 g1 g2
  by_cases hc : ofC 256 x a = 0
  · rw [hc] at KQ
    obtain ⟨h0, h1⟩ := ofC_zero hc
    obtain ⟨zn, hqs⟩ := quietC_zero h0
    obtain ⟨h5, h6⟩ := oqC_zero h1
    obtain ⟨-, m1, m2, m3, m4⟩ := mirC_zero h5
    have hbd : ∀ i j, 0 ≤ pt a.xViews i j ∧ pt a.xViews i j < 256 := fun i j => by have h := m3 i j; rw [h6] at h; exact h
    have NB := NetB.of zn hx
    have hH0 : 0 < x.xHeard.length := by rw [NB.h4]; omega
    have KX := fun W g bs hN hF => spec_l9Relu g (w.heap.size + 1) pa ca x bs 0 a.xViews W hN NB (by omega) hqs hF ⟨m1, m2⟩ hbd m4
    have HFR : Hid (∀ W, Blk W (w.heap.size + 1) 36 #[.int .i64 a.xQ, .slice pa a.xViews.length ca] → Below w.heap.size w W → Blk W (w.heap.size + 1) 36 #[.int .i64 256, .slice pa 4 ca] ∧ ReadsM W (.slice pa 4 ca) a.xViews) := fun W hX hB => ⟨by rw [h6, m1] at hX; exact hX, by have := ga.below hB; rw [m1] at this; exact this⟩
    have HRES : Hid (rlR x a = ⟨0, mOf (rlX a.xViews x).xQuarrel.xSome 256 (rlF a.xViews x), rlX a.xViews x⟩) := by show _ = _; show oneR _ _ _ _ = _; rw [hc, oneR_ok]
    clear hc h0 h1 zn hqs h5 h6 m1 m2 m3 m4 hbd NB ga
    generalize rlX a.xViews x = x2 at *
    generalize rlF a.xViews x = fs at *
    go_enter Tryz.func7, Tryz.ntmps7
    go_wp2_with fail
    refine KQ.mono ?_
    rintro e w1 ⟨rfl, hb1⟩
    have X1 := X0.keep hb1
    have XA1 := XA0.keep hb1
    have Y1 := Y0.keep hb1
    have B1 := B0.trans (hb1.mono B0.size)
    have sz1 : Hid (w.heap.size + 3 ≤ w1.heap.size) := by have := hb1.size; have := sz0.out; show _ ≤ _; omega
    clear X0 XA0 Y0 B0 hb1 KQ sz0
    go_wp2_with (refine wpList_load_blk rfl 41 _ rfl w.heap.size rfl X1 Tryz.underlying41 rfl (by kernel_rfl) ?_)
    refine (KC _ B1).mono ?_
    rintro e w1b ⟨q0, d0, q1, d1, q2, d2, bt, b1, b2, rfl, T1, U1, H1, j01, j02, j12, f0, f1, f2, hb1⟩
    have Y2 := Y1.keep hb1
    have XA2 := XA1.keep hb1
    have B2 := B1.trans (hb1.mono B1.size)
    have sz2 := Nat.le_trans sz1.out hb1.size
    have fw0 := fun y hy => Nat.le_trans sz1.out (f0 y hy)
    have fw1 := fun y hy => Nat.le_trans sz1.out (f1 y hy)
    have fw2 := fun y hy => Nat.le_trans sz1.out (f2 y hy)
    clear X1 XA1 Y1 B1 hb1 f0 f1 f2 KC sz1
    have Zn := Blk.new w1b 41 #[.slice none 0 0, .slice none 0 0, .int .i64 0, .slice none 0 0, .int .i64 0, .int .i64 0, .int .i64 0, .bool false, .bool false, .int .i64 0, .int .i64 0, .int .i64 0, .int .i64 0, .int .i64 0, .int .i64 0, .int .i64 0]
    go_wp2_with (refine wpList_store_blk rfl 41 _ _ rfl w1b.heap.size #[.slice q0 x.xTape.length d0, .slice q1 x.xUsed.length d1, .int .i64 x.xSent, .slice q2 x.xHeard.length d2, .int .i64 x.xCheat.xWho, .int .i64 x.xCheat.xAt, .int .i64 x.xCheat.xBy, .bool x.xCheat.xCry, .bool x.xQuarrel.xSome, .int .i64 x.xQuarrel.xFrom, .int .i64 x.xQuarrel.xCheck, .int .i64 x.xQuarrel.xTo, .int .i64 x.xQuarrel.xTold, .int .i64 x.xQuarrel.xHeard, .int .i64 x.xQuarrel.xOther, .int .i64 x.xQuarrel.xVowed] rfl rfl Zn rfl (by kernel_rfl) (by kernel_rfl) ?_; intro w2 Z2 O2)
    have O2' : Off [w1b.heap.size] w1b w2 := ((Off.refl _ _).alloc _).trans O2
    have N2 : NetIn w2 w1b.heap.size x (bt ++ (b1 ++ b2)) := NetIn.of Z2 (T1.off O2' (fun y hy hm => by have := T1.lt y hy; simp at hm; omega)) (U1.off O2' (fun y hy hm => by have := U1.lt y hy; simp at hm; omega)) (H1.off O2' (fun y hy hm => by have := H1.lt y hy; simp at hm; omega)) (fun hm => Nat.lt_irrefl _ (T1.lt _ hm)) (fun hm => Nat.lt_irrefl _ (U1.lt _ hm)) (fun hm => Nat.lt_irrefl _ (H1.lt _ hm)) j01 j02 j12 hH0
    have Y3 := Y2.off O2' (by simp; omega)
    have XA3 := XA2.off O2' (by simp; omega)
    have B3 : Below w.heap.size w w2 := B2.trans (O2'.toBelow B2.size (by have := B2.size; simp; omega))
    have hbs : ∀ y ∈ bt ++ (b1 ++ b2), w.heap.size + 3 ≤ y := fun y hy => by rcases List.mem_append.1 hy with h | h; (exact fw0 y h); (rcases List.mem_append.1 h with h | h; (exact fw1 y h); (exact fw2 y h))
    have lZ := Z2.lt
    clear Zn T1 U1 H1 O2 O2' Y2 XA2 B2 fw0 fw1 fw2 Z2 j01 j02 j12
    generalize bt ++ (b1 ++ b2) = bs at *
    generalize w1b.heap.size = g at *
    have hgg : ∀ y ∈ g :: bs, w.heap.size + 3 ≤ y := fun y hy => by rcases List.mem_cons.1 hy with h | h; omega; (exact hbs y h)
    have hgb : ∀ V, Off (g :: bs) w2 V → Below w.heap.size w V := fun V h => B3.trans (h.toBelow B3.size (fun y hy => by have := hgg y hy; omega))
    go_wp2_with fail
    refine (KX _ g bs N2 (fun V h => HFR.out V (XA3.off h (fun hm => by have := hgg _ hm; omega)) (hgb V h))).mono ?_
    rintro e w4 ⟨bn, p, c, bm, rfl, hM, hm12, N5, hbn, O5⟩
    have hm1 := fun y hy => (hm12 y hy).1
    have hm2 := fun y hy => (hm12 y hy).2
    have Y5 := Y3.off O5 (fun hm => by have := hgg _ hm; omega)
    have B5 := hgb _ O5
    have z3 := Y3.lt
    have hbn2 : ∀ y ∈ bn, w.heap.size + 3 ≤ y := fun y hy => by rcases hbn y hy with h | h; (exact hbs y h); omega
    have z5 := O5.size
    have lg5 := N5.lt
    have ly5 := Y5.lt
    clear Y3 XA3 B3 N2 KX O5 hgg hgb hbn hbs lZ HFR hm12
    generalize hmm : mOf x2.xQuarrel.xSome 256 fs = mm at *
    clear hmm
    have Vn := Blk.new w4 36 #[.int .i64 0, .slice none 0 0]
    have hlts := N5.lts
    obtain ⟨q0, q1, gH, d0, d1, d2, bt, b1, b2, Z5, T5, U5, H5, -, -, -, k01, k02, k12, rfl⟩ := N5
    go_wp2_with (first | (refine wpList_load_blk rfl 36 _ rfl w4.heap.size rfl V5 Tryz.underlying36 rfl (by kernel_rfl) ?_) | (refine wpList_load_blk rfl 41 _ rfl g rfl Z6 Tryz.underlying41 rfl (by kernel_rfl) ?_) | (refine wpList_store_blk rfl 43 _ _ rfl (w.heap.size + 2) (#[.int .i64 0, .int .i64 mm.xQ, .slice p mm.xViews.length c, .slice q0 x2.xTape.length d0, .slice q1 x2.xUsed.length d1, .int .i64 x2.xSent, .slice (some ⟨gH, 0, none⟩) x2.xHeard.length d2, .int .i64 x2.xCheat.xWho, .int .i64 x2.xCheat.xAt, .int .i64 x2.xCheat.xBy, .bool x2.xCheat.xCry, .bool x2.xQuarrel.xSome, .int .i64 x2.xQuarrel.xFrom, .int .i64 x2.xQuarrel.xCheck, .int .i64 x2.xQuarrel.xTo, .int .i64 x2.xQuarrel.xTold, .int .i64 x2.xQuarrel.xHeard, .int .i64 x2.xQuarrel.xOther, .int .i64 x2.xQuarrel.xVowed]) rfl rfl Y6 rfl (by kernel_rfl) (by kernel_rfl) ?_; intro w7 Y8 O8) | (refine wpList_store_blk rfl 36 _ _ rfl w4.heap.size #[.int .i64 mm.xQ, .slice p mm.xViews.length c] rfl rfl Vn rfl (by kernel_rfl) (by kernel_rfl) ?_; intro w5 V5 O6; have O6q : Off [w4.heap.size] w4 w5 := ((Off.refl _ _).alloc _).trans O6; have Z6 := Z5.off O6q (by simp; omega); have Y6 := Y5.off O6q (by simp; omega)))
    have nn : ∀ y, y < w4.heap.size → y ∉ [w4.heap.size] := fun y hy hm => by simp at hm; omega
    have T6 := T5.off O6q (fun y hy => nn y (T5.lt y hy))
    have U6 := U5.off O6q (fun y hy => nn y (U5.lt y hy))
    have H6 := H5.off O6q (fun y hy => nn y (H5.lt y hy))
    have B6 := B5.trans (O6q.toBelow B5.size (by have := B5.size; simp; omega))
    have M6 := hM.off O6q (fun y hy => nn y (hM.lt y hy))
    have ly6 := Y6.lt
    have z6 := O6q.size
    replace hlts := fun y hy => Nat.lt_of_lt_of_le (hlts y hy) z6
    exact bodyPost_ret (v := .agg #[.int .i64 0, .int .i64 mm.xQ, .slice p mm.xViews.length c, .slice q0 x2.xTape.length d0, .slice q1 x2.xUsed.length d1, .int .i64 x2.xSent, .slice (some ⟨gH, 0, none⟩) x2.xHeard.length d2, .int .i64 x2.xCheat.xWho, .int .i64 x2.xCheat.xAt, .int .i64 x2.xCheat.xBy, .bool x2.xCheat.xCry, .bool x2.xQuarrel.xSome, .int .i64 x2.xQuarrel.xFrom, .int .i64 x2.xQuarrel.xCheck, .int .i64 x2.xQuarrel.xTo, .int .i64 x2.xQuarrel.xTold, .int .i64 x2.xQuarrel.xHeard, .int .i64 x2.xQuarrel.xOther, .int .i64 x2.xQuarrel.xVowed]) (results_blk Tryz.results7 rfl Y8 Tryz.underlying43 rfl (by kernel_rfl)) rfl (by rw [HRES.out]; exact OutMix.of 0 T6 U6 H6 k01 k02 k12 (fun y hy => ⟨by have := hbn2 y hy; omega, O8.block y (hlts y hy) (by have := hbn2 y hy; simp; omega)⟩) (M6.off O8 (fun y hy hm => by have := hm1 y hy; simp at hm; omega)) (fun y hy => ⟨by have := hm1 y hy; omega, hm2 y hy⟩) (B6.trans (O8.toBelow B6.size (by simp))))
  · have HRES : Hid (rlR x a = badM (ofC 256 x a)) := by show _ = _; exact oneR_bad hc
    have hne : (ofC 256 x a != 0) = true := by simpa using hc
    generalize ofC 256 x a = r at *
    clear hc ga KC
    go_enter Tryz.func7, Tryz.ntmps7
    go_wp2_with fail
    refine KQ.mono ?_
    rintro e w1 ⟨rfl, hb1⟩
    have X1 := X0.keep hb1
    have XA1 := XA0.keep hb1
    have Y1 := Y0.keep hb1
    have B1 := B0.trans (hb1.mono B0.size)
    have sz1 : Hid (w.heap.size + 3 ≤ w1.heap.size) := by have := hb1.size; have := sz0.out; show _ ≤ _; omega
    clear X0 XA0 Y0 B0 hb1 KQ sz0
    go_wp2_with fail
    refine (spec_l5Bad r _).mono ?_
    rintro e w2 ⟨rfl, hb2⟩
    have Y2 := Y1.keep hb2
    have B2 := B1.trans (hb2.mono B1.size)
    go_wp2_with (refine wpList_store_blk rfl 43 _ _ rfl (w.heap.size + 2) (#[.int .i64 r, .int .i64 0, .slice none 0 0, .slice none 0 0, .slice none 0 0, .int .i64 0, .slice none 0 0, .int .i64 0, .int .i64 0, .int .i64 0, .bool false, .bool false, .int .i64 0, .int .i64 0, .int .i64 0, .int .i64 0, .int .i64 0, .int .i64 0, .int .i64 0]) rfl rfl Y2 rfl (by kernel_rfl) (by kernel_rfl) ?_; intro w9 Y9 O9)
    have B9 : Below w.heap.size w w9 := B2.trans (O9.toBelow B2.size (by simp))
    exact bodyPost_ret (v := .agg #[.int .i64 r, .int .i64 0, .slice none 0 0, .slice none 0 0, .slice none 0 0, .int .i64 0, .slice none 0 0, .int .i64 0, .int .i64 0, .int .i64 0, .bool false, .bool false, .int .i64 0, .int .i64 0, .int .i64 0, .int .i64 0, .int .i64 0, .int .i64 0, .int .i64 0]) (results_blk Tryz.results7 rfl Y9 Tryz.underlying43 rfl (by kernel_rfl)) rfl (by rw [HRES.out]; exact OutMix.bad _ B9)
end Go.Proofs.YtepobckhfodngaoGreat
