/-
  What becomes 0 below 0, in the program: ReluMirror.
-/
import Derived.Test.YtepobckhfodngaoGreatNrI
import Derived.Test.YtepobckhfodngaoGreatRlT
import Derived.Test.YtepobckhfodngaoGreatPfO
import Derived.Test.YtepobckhfodngaoGreatDotX
import Derived.Deep.Cut
namespace Go.Proofs.YtepobckhfodngaoGreat
open Go.ChangeShapes Go.WideShapes Go.ChangeAt Go.RowKit
set_option linter.unusedVariables false
set_option maxHeartbeats 8000000 in
set_option maxRecDepth 100000 in
theorem impl_ReluMirror (vv : Value) (x : MNet) (va : Value) (a : MMirror) (w : World) (hv : RdNet w vv x) (hx : Fit x) (ra : RdMirror w va a) :
    Calls Tryz.prog 10 #[vv, va] w fun e w' => OutMix w w' (rlR x a) e := by
  have KF := fun W (hb : Below w.heap.size w W) => impl_oneFault 256 vv x va a W (hv.below hb) (ra.below hb)
  have KC := fun W (hb : Below w.heap.size w W) => impl_copyOfNetT vv x W (hv.below hb) hx
  have KV := fun W (hb : Below w.heap.size w W) hs => impl_shareOf va a W (ra.below hb) hs
  obtain ⟨cs, rfl, Rn⟩ := hv.row
  obtain ⟨pa, ca, rfl, ga⟩ := ra
  have hR := Rn.hi (P := Tryz.prog) (T := 41) (by kernel_rfl)
  clear ga Rn hv
  have B0 : Below w.heap.size w (((w.alloc (.cells cs 41)).alloc (.cells #[.int .i64 a.xQ, .slice pa a.xViews.length ca] 36)).alloc (.cells #[.int .i64 0, .int .i64 0, .slice none 0 0, .slice none 0 0, .slice none 0 0, .int .i64 0, .slice none 0 0, .int .i64 0, .int .i64 0, .int .i64 0, .bool false, .bool false, .int .i64 0, .int .i64 0, .int .i64 0, .int .i64 0, .int .i64 0, .int .i64 0, .int .i64 0] 43)) := (by repeat (first | exact Below.refl _ _ | refine Below.drew ?_ | refine below_drewN ?_ _ | refine Below.setCell ?_ (by first | omega | (simp; done) | (simp; omega)) _ | refine Below.alloc ?_ (by first | omega | (simp; done) | (simp; omega)) _))
  have X0 : Blk (((w.alloc (.cells cs 41)).alloc (.cells #[.int .i64 a.xQ, .slice pa a.xViews.length ca] 36)).alloc (.cells #[.int .i64 0, .int .i64 0, .slice none 0 0, .slice none 0 0, .slice none 0 0, .int .i64 0, .slice none 0 0, .int .i64 0, .int .i64 0, .int .i64 0, .bool false, .bool false, .int .i64 0, .int .i64 0, .int .i64 0, .int .i64 0, .int .i64 0, .int .i64 0, .int .i64 0] 43)) w.heap.size 41 cs := ((Blk.new w _ _).alloc _).alloc _
  have XA0 : Blk (((w.alloc (.cells cs 41)).alloc (.cells #[.int .i64 a.xQ, .slice pa a.xViews.length ca] 36)).alloc (.cells #[.int .i64 0, .int .i64 0, .slice none 0 0, .slice none 0 0, .slice none 0 0, .int .i64 0, .slice none 0 0, .int .i64 0, .int .i64 0, .int .i64 0, .bool false, .bool false, .int .i64 0, .int .i64 0, .int .i64 0, .int .i64 0, .int .i64 0, .int .i64 0, .int .i64 0] 43)) (w.heap.size + 1) 36 #[.int .i64 a.xQ, .slice pa a.xViews.length ca] := by simpa using (Blk.new (w.alloc (.cells cs 41)) 36 #[.int .i64 a.xQ, .slice pa a.xViews.length ca]).alloc (.cells #[.int .i64 0, .int .i64 0, .slice none 0 0, .slice none 0 0, .slice none 0 0, .int .i64 0, .slice none 0 0, .int .i64 0, .int .i64 0, .int .i64 0, .bool false, .bool false, .int .i64 0, .int .i64 0, .int .i64 0, .int .i64 0, .int .i64 0, .int .i64 0, .int .i64 0] 43)
  have Y0 : Blk (((w.alloc (.cells cs 41)).alloc (.cells #[.int .i64 a.xQ, .slice pa a.xViews.length ca] 36)).alloc (.cells #[.int .i64 0, .int .i64 0, .slice none 0 0, .slice none 0 0, .slice none 0 0, .int .i64 0, .slice none 0 0, .int .i64 0, .int .i64 0, .int .i64 0, .bool false, .bool false, .int .i64 0, .int .i64 0, .int .i64 0, .int .i64 0, .int .i64 0, .int .i64 0, .int .i64 0] 43)) (w.heap.size + 2) 43 #[.int .i64 0, .int .i64 0, .slice none 0 0, .slice none 0 0, .slice none 0 0, .int .i64 0, .slice none 0 0, .int .i64 0, .int .i64 0, .int .i64 0, .bool false, .bool false, .int .i64 0, .int .i64 0, .int .i64 0, .int .i64 0, .int .i64 0, .int .i64 0, .int .i64 0] := by simpa using Blk.new ((w.alloc (.cells cs 41)).alloc (.cells #[.int .i64 a.xQ, .slice pa a.xViews.length ca] 36)) 43 #[.int .i64 0, .int .i64 0, .slice none 0 0, .slice none 0 0, .slice none 0 0, .int .i64 0, .slice none 0 0, .int .i64 0, .int .i64 0, .int .i64 0, .bool false, .bool false, .int .i64 0, .int .i64 0, .int .i64 0, .int .i64 0, .int .i64 0, .int .i64 0, .int .i64 0]
  have z0 : Hid ((((w.alloc (.cells cs 41)).alloc (.cells #[.int .i64 a.xQ, .slice pa a.xViews.length ca] 36)).alloc (.cells #[.int .i64 0, .int .i64 0, .slice none 0 0, .slice none 0 0, .slice none 0 0, .int .i64 0, .slice none 0 0, .int .i64 0, .int .i64 0, .int .i64 0, .bool false, .bool false, .int .i64 0, .int .i64 0, .int .i64 0, .int .i64 0, .int .i64 0, .int .i64 0, .int .i64 0] 43)).heap.size = w.heap.size + 3) := by show _ = _; simp
  by_cases hc : ofC 256 x a = 0
  · rw [hc] at KF
    obtain ⟨h0, h1⟩ := ofC_zero hc
    obtain ⟨zn, hqs⟩ := quietC_zero h0
    obtain ⟨h5, h6⟩ := oqC_zero h1
    obtain ⟨-, m1, m2, m3, m4⟩ := mirC_zero h5
    have hsq : Sq a.xViews := ⟨m1, m2⟩
    have hbd : ∀ i j, 0 ≤ pt a.xViews i j ∧ pt a.xViews i j < 256 := fun i j => by have h := m3 i j; rw [h6] at h; exact h
    have hok := sh_ok16 hsq hbd
    have hown : Own0 a.xViews.flatten := fun p hp => by rw [flat_getD hsq p p hp hp]; exact m4 p hp
    have NB := NetB.of zn hx
    have hH0 : 0 < x.xHeard.length := by rw [NB.h4]; omega
    have KS := fun W hb => KV W hb hsq
    rw [show a.xQ :: a.xViews.flatten = 256 :: a.xViews.flatten by rw [h6]] at KS
    have KG := fun W g bs hN => impl_relu a.xViews g x bs 0 W hN NB (by omega) hqs hsq hbd m4
    have HRES : Hid (rlR x a = ⟨0, mOf (rlX a.xViews x).xQuarrel.xSome 256 (rlF a.xViews x), rlX a.xViews x⟩) := by show _ = _; unfold rlR; rw [hc, oneR_ok]
    clear hc h0 h1 zn hqs h5 h6 m1 m2 m3 m4 hsq hbd hok hown NB KV
    generalize rlX a.xViews x = x2 at *
    generalize rlF a.xViews x = fs at *
    generalize Value.agg (cells1 (256 :: a.xViews.flatten)) = gA at *
    go_enter Tryz.func10, Tryz.ntmps10
    go_wp2_with (first | (refine wpList_load_blk rfl 41 _ rfl w.heap.size rfl X0 Tryz.underlying41 rfl hR ?_) | (refine wpList_load_blk rfl 36 _ rfl (w.heap.size + 1) rfl XA0 Tryz.underlying36 rfl (by kernel_rfl) ?_))
    refine (KF _ B0).mono ?_
    rintro e w1 ⟨rfl, hb1⟩
    have X1 := X0.keep hb1
    have XA1 := XA0.keep hb1
    have Y1 := Y0.keep hb1
    have B1 := B0.trans (hb1.mono B0.size)
    have z1 : Hid (w.heap.size + 3 ≤ w1.heap.size) := by have := hb1.size; have := z0.out; show _ ≤ _; omega
    clear X0 XA0 Y0 B0 hb1 KF z0
    go_wp2_with (refine wpList_load_blk rfl 41 _ rfl w.heap.size rfl X1 Tryz.underlying41 rfl hR ?_)
    refine (KC _ B1).mono ?_
    rintro e w8 ⟨q0, d0, q1, d1, q2, d2, bt, b1, b2, rfl, T1, U1, H1, j01, j02, j12, f0, f1, f2, hb1⟩
    have XA8 := XA1.keep hb1
    have Y8 := Y1.keep hb1
    have B8 := B1.trans (hb1.mono B1.size)
    have z8 := Nat.le_trans z1.out hb1.size
    have fw0 := fun y hy => Nat.le_trans z1.out (f0 y hy)
    have fw1 := fun y hy => Nat.le_trans z1.out (f1 y hy)
    have fw2 := fun y hy => Nat.le_trans z1.out (f2 y hy)
    clear X1 XA1 Y1 B1 hb1 f0 f1 f2 KC z1
    have Zn := Blk.new w8 41 #[.slice none 0 0, .slice none 0 0, .int .i64 0, .slice none 0 0, .int .i64 0, .int .i64 0, .int .i64 0, .bool false, .bool false, .int .i64 0, .int .i64 0, .int .i64 0, .int .i64 0, .int .i64 0, .int .i64 0, .int .i64 0]
    go_upto_region 5 with (refine wpList_store_blk rfl 41 _ _ rfl w8.heap.size (#[.slice q0 x.xTape.length d0, .slice q1 x.xUsed.length d1, .int .i64 x.xSent, .slice q2 x.xHeard.length d2, .int .i64 x.xCheat.xWho, .int .i64 x.xCheat.xAt, .int .i64 x.xCheat.xBy, .bool x.xCheat.xCry, .bool x.xQuarrel.xSome, .int .i64 x.xQuarrel.xFrom, .int .i64 x.xQuarrel.xCheck, .int .i64 x.xQuarrel.xTo, .int .i64 x.xQuarrel.xTold, .int .i64 x.xQuarrel.xHeard, .int .i64 x.xQuarrel.xOther, .int .i64 x.xQuarrel.xVowed]) rfl rfl Zn rfl (by kernel_rfl) (by kernel_rfl) ?_; intro w2 Z2 O2)
    have O2' : Off [w8.heap.size] w8 w2 := ((Off.refl _ _).alloc _).trans O2
    have N2 : NetIn w2 w8.heap.size x (bt ++ (b1 ++ b2)) := NetIn.of Z2 (T1.off O2' (fun y hy hm => by have := T1.lt y hy; simp at hm; omega)) (U1.off O2' (fun y hy hm => by have := U1.lt y hy; simp at hm; omega)) (H1.off O2' (fun y hy hm => by have := H1.lt y hy; simp at hm; omega)) (fun hm => Nat.lt_irrefl _ (T1.lt _ hm)) (fun hm => Nat.lt_irrefl _ (U1.lt _ hm)) (fun hm => Nat.lt_irrefl _ (H1.lt _ hm)) j01 j02 j12 hH0
    have XA2 := XA8.off O2' (by simp; omega)
    have Y2 := Y8.off O2' (by simp; omega)
    have B2 : Below w.heap.size w w2 := B8.trans (O2'.toBelow B8.size (by have := B8.size; simp; omega))
    have hbs : ∀ y ∈ bt ++ (b1 ++ b2), w.heap.size + 3 ≤ y := fun y hy => by rcases List.mem_append.1 hy with h | h; (exact fw0 y h); (rcases List.mem_append.1 h with h | h; (exact fw1 y h); (exact fw2 y h))
    have gz8 : w.heap.size + 3 ≤ w8.heap.size := z8
    clear Zn T1 U1 H1 O2 O2' XA8 Y8 B8 fw0 fw1 fw2 Z2 j01 j02 j12 z8
    generalize bt ++ (b1 ++ b2) = bs at *
    generalize w8.heap.size = g at *
    have hgg : ∀ y ∈ g :: bs, w.heap.size + 3 ≤ y := fun y hy => by rcases List.mem_cons.1 hy with h | h; omega; (exact hbs y h)
    go_wp2_with (refine wpList_load_blk rfl 36 _ rfl (w.heap.size + 1) rfl XA2 Tryz.underlying36 rfl (by kernel_rfl) ?_)
    refine (KS _ B2).mono ?_
    rintro e w3 ⟨rfl, hb3⟩
    have Y3 := Y2.keep hb3
    have N3 := N2.keep hb3
    have B3 := B2.trans (hb3.mono B2.size)
    clear XA2 Y2 N2 B2 hb3 KS
    go_wp2_with fail
    refine (KG _ g bs N3).mono ?_
    rintro e w4 ⟨qv, gs, cn, rfl, hgl, hgq, N4, hcn, O4⟩
    have Y4 := Y3.off O4 (fun hm => by have := hgg _ hm; omega)
    have zB3 := B3.size
    have B4 := B3.trans (O4.toBelow B3.size (fun y hy => by have := hgg y hy; omega))
    have hcn2 : ∀ y ∈ cn, w.heap.size + 3 ≤ y := fun y hy => by rcases hcn y hy with h | h; (exact hbs y h); (have := Y3.lt; omega)
    have HQL : Hid ((qv :: gs).length = 17) := by show _ = _; rw [List.length_cons, hgl]
    have HGL : Hid (gs.length = 16) := hgl
    have HMO : Hid (mOf x2.xQuarrel.xSome qv gs = mOf x2.xQuarrel.xSome 256 fs) := by show _ = _; cases hs : x2.xQuarrel.xSome; (rw [(hgq hs).1, (hgq hs).2]); rfl
    clear Y3 N3 B3 hcn O4 KG hgl hgq
    have Vn := Blk.new w4 87 #[.int .i64 0, .int .i64 0, .int .i64 0, .int .i64 0, .int .i64 0, .int .i64 0, .int .i64 0, .int .i64 0, .int .i64 0, .int .i64 0, .int .i64 0, .int .i64 0, .int .i64 0, .int .i64 0, .int .i64 0, .int .i64 0, .int .i64 0]
    have lg4 := N4.lt
    have ly4 := Y4.lt
    go_upto_region 6 with (refine wpList_store_blk rfl 87 _ _ rfl w4.heap.size (cells1 (qv :: gs)) rfl rfl Vn (by rw [cells1_size, HQL.out]; rfl) (by rw [cells1_size, HQL.out]; kernel_rfl) (cells1_one _) ?_; intro w5 V5 O5)
    have O5' : Off [w4.heap.size] w4 w5 := ((Off.refl _ _).alloc _).trans O5
    have N5 := N4.off O5' (by simp; omega) (fun y hy hm => by have := N4.lts y hy; simp at hm; omega)
    have Y5 := Y4.off O5' (by simp; omega)
    have B5 := B4.trans (O5'.toBelow B4.size (by have := B4.size; simp; omega))
    clear Vn O5 O5' N4 Y4 B4 hgg
    generalize w4.heap.size = gv at *
    have hlts := N5.lts
    obtain ⟨q0', q1', gH', d0', d1', d2', bt', b1', b2', Z9, T9, U9, H9, -, -, -, k01, k02, k12, rfl⟩ := N5
    have KX := fun W => impl_mixOf qv gs x2 q0' q1' gH' d0' d1' d2' W HGL.out
    rw [HMO.out] at KX
    go_wp2_with (first | (refine wpList_load_blk rfl 87 _ rfl gv rfl V5 Tryz.underlying87 rfl (by rw [cells1_size, HQL.out]; kernel_rfl) ?_) | (refine wpList_load_blk rfl 41 _ rfl g rfl Z9 Tryz.underlying41 rfl (by kernel_rfl) ?_))
    refine (KX _).mono ?_
    rintro e w6 ⟨p, c, rfl, bm, hM, hbm, hb6⟩
    have Y7 := Y5.keep hb6
    have B7 := B5.trans (hb6.mono B5.size)
    have lY7 := Y5.lt
    go_wp2_with (refine wpList_store_blk rfl 43 _ _ rfl (w.heap.size + 2) (#[.int .i64 0, .int .i64 (mOf x2.xQuarrel.xSome 256 fs).xQ, .slice p (mOf x2.xQuarrel.xSome 256 fs).xViews.length c, .slice q0' x2.xTape.length d0', .slice q1' x2.xUsed.length d1', .int .i64 x2.xSent, .slice (some ⟨gH', 0, none⟩) x2.xHeard.length d2', .int .i64 x2.xCheat.xWho, .int .i64 x2.xCheat.xAt, .int .i64 x2.xCheat.xBy, .bool x2.xCheat.xCry, .bool x2.xQuarrel.xSome, .int .i64 x2.xQuarrel.xFrom, .int .i64 x2.xQuarrel.xCheck, .int .i64 x2.xQuarrel.xTo, .int .i64 x2.xQuarrel.xTold, .int .i64 x2.xQuarrel.xHeard, .int .i64 x2.xQuarrel.xOther, .int .i64 x2.xQuarrel.xVowed]) rfl rfl Y7 rfl (by kernel_rfl) (by kernel_rfl) ?_; intro w7 Y8 O8)
    have HFR : ∀ y ∈ bt' ++ (b1' ++ b2'), w7.heap[y]? = w5.heap[y]? := fun y hy => ((Off.ofBelow hb6).trans O8).block y (hlts y hy) (by have := hcn2 y hy; simp; omega)
    exact bodyPost_ret (v := .agg (#[.int .i64 0, .int .i64 (mOf x2.xQuarrel.xSome 256 fs).xQ, .slice p (mOf x2.xQuarrel.xSome 256 fs).xViews.length c, .slice q0' x2.xTape.length d0', .slice q1' x2.xUsed.length d1', .int .i64 x2.xSent, .slice (some ⟨gH', 0, none⟩) x2.xHeard.length d2', .int .i64 x2.xCheat.xWho, .int .i64 x2.xCheat.xAt, .int .i64 x2.xCheat.xBy, .bool x2.xCheat.xCry, .bool x2.xQuarrel.xSome, .int .i64 x2.xQuarrel.xFrom, .int .i64 x2.xQuarrel.xCheck, .int .i64 x2.xQuarrel.xTo, .int .i64 x2.xQuarrel.xTold, .int .i64 x2.xQuarrel.xHeard, .int .i64 x2.xQuarrel.xOther, .int .i64 x2.xQuarrel.xVowed])) (results_blk Tryz.results10 rfl Y8 Tryz.underlying43 rfl (by kernel_rfl)) rfl (by rw [HRES.out]; exact OutMix.of 0 T9 U9 H9 k01 k02 k12 (fun y hy => ⟨by have := hcn2 y hy; omega, HFR y hy⟩) (hM.off O8 (fun y hy hm => by have := hbm y hy; simp at hm; omega)) (fun y hy => ⟨by have := hbm y hy; omega, fun hm => by have := hbm y hy; have := hlts y hm; omega⟩) (B7.trans (O8.toBelow B7.size (by simp))))
  · have HRES : Hid (rlR x a = badM (ofC 256 x a)) := by show _ = _; exact oneR_bad hc
    have hne : (ofC 256 x a != 0) = true := by simpa using hc
    generalize ofC 256 x a = r at *
    clear hc KC KV
    go_enter Tryz.func10, Tryz.ntmps10
    go_wp2_with (first | (refine wpList_load_blk rfl 41 _ rfl w.heap.size rfl X0 Tryz.underlying41 rfl hR ?_) | (refine wpList_load_blk rfl 36 _ rfl (w.heap.size + 1) rfl XA0 Tryz.underlying36 rfl (by kernel_rfl) ?_))
    refine (KF _ B0).mono ?_
    rintro e w1 ⟨rfl, hb1⟩
    have X1 := X0.keep hb1
    have XA1 := XA0.keep hb1
    have Y1 := Y0.keep hb1
    have B1 := B0.trans (hb1.mono B0.size)
    have z1 : Hid (w.heap.size + 3 ≤ w1.heap.size) := by have := hb1.size; have := z0.out; show _ ≤ _; omega
    clear X0 XA0 Y0 B0 hb1 KF z0
    go_wp2_with (refine wpList_store_blk rfl 43 _ _ rfl (w.heap.size + 2) (#[.int .i64 r, .int .i64 0, .slice none 0 0, .slice none 0 0, .slice none 0 0, .int .i64 0, .slice none 0 0, .int .i64 0, .int .i64 0, .int .i64 0, .bool false, .bool false, .int .i64 0, .int .i64 0, .int .i64 0, .int .i64 0, .int .i64 0, .int .i64 0, .int .i64 0]) rfl rfl Y1 rfl (by kernel_rfl) (by kernel_rfl) ?_; intro w9 Y9 O9)
    have B9 : Below w.heap.size w w9 := B1.trans (O9.toBelow B1.size (by simp))
    exact bodyPost_ret (v := .agg #[.int .i64 r, .int .i64 0, .slice none 0 0, .slice none 0 0, .slice none 0 0, .int .i64 0, .slice none 0 0, .int .i64 0, .int .i64 0, .int .i64 0, .bool false, .bool false, .int .i64 0, .int .i64 0, .int .i64 0, .int .i64 0, .int .i64 0, .int .i64 0, .int .i64 0]) (results_blk Tryz.results10 rfl Y9 Tryz.underlying43 rfl (by kernel_rfl)) rfl (by rw [HRES.out]; exact OutMix.bad _ B9)
end Go.Proofs.YtepobckhfodngaoGreat
