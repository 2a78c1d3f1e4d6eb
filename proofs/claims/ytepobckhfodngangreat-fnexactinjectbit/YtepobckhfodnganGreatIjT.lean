/-
  A bit as a number, in the model: InjectBit.
-/
import Derived.Test.YtepobckhfodnganGreatIjS
import Derived.Test.YtepobckhfodnganGreatOneM
namespace Go.Proofs.YtepobckhfodnganGreat
open Go.ChangeShapes Go.WideShapes Go.ChangeAt Go.RowKit
set_option linter.unusedVariables false
theorem ijX_tape (fs : List Int) (x : MNet) : (ijX fs x).xTape = x.xTape := by
  have h1 : (ijX1 fs x).xTape = x.xTape := dotX_tape _ _ _ _ _
  have h2 : (ijX2 fs x).xTape = (ijX1 fs x).xTape := dotX_tape _ _ _ _ _
  have h3 : (ijX3 fs x).xTape = (ijX2 fs x).xTape := dotX_tape _ _ _ _ _
  unfold ijX
  split
  · exact h1
  · split
    · exact h2.trans h1
    · exact h3.trans (h2.trans h1)
theorem ijX_NB (fs : List Int) {m : Nat} {x : MNet} (B : NetB m x) : NetB (m + 36) (ijX fs x) := by
  obtain ⟨h1, h2, h3⟩ := ijX_B fs B
  unfold ijX
  split
  · exact h1.mono (by omega)
  · split
    · exact h2.mono (by omega)
    · exact h3.mono (by omega)
def ijR (x : MNet) (a : MMirror) : MMixResult := oneR (ofC 2 x a) (ijX a.xViews.flatten x) 256 (ijF a.xViews.flatten x)
theorem ijR_cnt (x : MNet) (a : MMirror) (h : totNet x ≤ 1048576) : cntMixResult (ijR x a) ≤ 268435456 :=
  oneR_cnt (m := 36) h (by omega) (fun hc => ⟨ijX_tape _ _, by have := ijX_NB a.xViews.flatten (NetB.of (quietC_zero (ofC_zero hc).1).1 (Fit.of_tot h)); rwa [Nat.zero_add] at this⟩)
set_option maxHeartbeats 8000000 in
set_option maxRecDepth 100000 in
theorem spec_InjectBit (vv : Value) (x : MNet) (va : Value) (a : MMirror) (w : World) (hv : RdNet w vv x) (hx : Fit x) (ra : RdMirror w va a) :
    Calls Tryz.prog 28 #[vv, va] w fun e w' => OutMix w w' (ijR x a) e := by
  have KC := fun W (hb : Below w.heap.size w W) => spec_l4CopyT vv x W (hv.below hb) hx
  obtain ⟨p0, c0, p1, c1, p2, c2, rfl, g0, g1, g2⟩ := hv
  obtain ⟨pa, ca, rfl, ga⟩ := ra
  have B0 : Below w.heap.size w (((w.alloc (.cells #[.slice p0 x.xTape.length c0, .slice p1 x.xUsed.length c1, .int .i64 x.xSent, .slice p2 x.xHeard.length c2, .int .i64 x.xCheat.xWho, .int .i64 x.xCheat.xAt, .int .i64 x.xCheat.xBy, .bool x.xCheat.xCry, .bool x.xQuarrel.xSome, .int .i64 x.xQuarrel.xFrom, .int .i64 x.xQuarrel.xCheck, .int .i64 x.xQuarrel.xTo, .int .i64 x.xQuarrel.xTold, .int .i64 x.xQuarrel.xHeard, .int .i64 x.xQuarrel.xOther, .int .i64 x.xQuarrel.xVowed] 40)).alloc (.cells #[.int .i64 a.xQ, .slice pa a.xViews.length ca] 56)).alloc (.cells #[.int .i64 0, .int .i64 0, .slice none 0 0, .slice none 0 0, .slice none 0 0, .int .i64 0, .slice none 0 0, .int .i64 0, .int .i64 0, .int .i64 0, .bool false, .bool false, .int .i64 0, .int .i64 0, .int .i64 0, .int .i64 0, .int .i64 0, .int .i64 0, .int .i64 0] 58)) := (by repeat (first | exact Below.refl _ _ | refine Below.drew ?_ | refine below_drewN ?_ _ | refine Below.setCell ?_ (by first | omega | (simp; done) | (simp; omega)) _ | refine Below.alloc ?_ (by first | omega | (simp; done) | (simp; omega)) _))
  have X0 : Blk (((w.alloc (.cells #[.slice p0 x.xTape.length c0, .slice p1 x.xUsed.length c1, .int .i64 x.xSent, .slice p2 x.xHeard.length c2, .int .i64 x.xCheat.xWho, .int .i64 x.xCheat.xAt, .int .i64 x.xCheat.xBy, .bool x.xCheat.xCry, .bool x.xQuarrel.xSome, .int .i64 x.xQuarrel.xFrom, .int .i64 x.xQuarrel.xCheck, .int .i64 x.xQuarrel.xTo, .int .i64 x.xQuarrel.xTold, .int .i64 x.xQuarrel.xHeard, .int .i64 x.xQuarrel.xOther, .int .i64 x.xQuarrel.xVowed] 40)).alloc (.cells #[.int .i64 a.xQ, .slice pa a.xViews.length ca] 56)).alloc (.cells #[.int .i64 0, .int .i64 0, .slice none 0 0, .slice none 0 0, .slice none 0 0, .int .i64 0, .slice none 0 0, .int .i64 0, .int .i64 0, .int .i64 0, .bool false, .bool false, .int .i64 0, .int .i64 0, .int .i64 0, .int .i64 0, .int .i64 0, .int .i64 0, .int .i64 0] 58)) w.heap.size 40 #[.slice p0 x.xTape.length c0, .slice p1 x.xUsed.length c1, .int .i64 x.xSent, .slice p2 x.xHeard.length c2, .int .i64 x.xCheat.xWho, .int .i64 x.xCheat.xAt, .int .i64 x.xCheat.xBy, .bool x.xCheat.xCry, .bool x.xQuarrel.xSome, .int .i64 x.xQuarrel.xFrom, .int .i64 x.xQuarrel.xCheck, .int .i64 x.xQuarrel.xTo, .int .i64 x.xQuarrel.xTold, .int .i64 x.xQuarrel.xHeard, .int .i64 x.xQuarrel.xOther, .int .i64 x.xQuarrel.xVowed] := ((Blk.new w _ _).alloc _).alloc _
  have XA0 : Blk (((w.alloc (.cells #[.slice p0 x.xTape.length c0, .slice p1 x.xUsed.length c1, .int .i64 x.xSent, .slice p2 x.xHeard.length c2, .int .i64 x.xCheat.xWho, .int .i64 x.xCheat.xAt, .int .i64 x.xCheat.xBy, .bool x.xCheat.xCry, .bool x.xQuarrel.xSome, .int .i64 x.xQuarrel.xFrom, .int .i64 x.xQuarrel.xCheck, .int .i64 x.xQuarrel.xTo, .int .i64 x.xQuarrel.xTold, .int .i64 x.xQuarrel.xHeard, .int .i64 x.xQuarrel.xOther, .int .i64 x.xQuarrel.xVowed] 40)).alloc (.cells #[.int .i64 a.xQ, .slice pa a.xViews.length ca] 56)).alloc (.cells #[.int .i64 0, .int .i64 0, .slice none 0 0, .slice none 0 0, .slice none 0 0, .int .i64 0, .slice none 0 0, .int .i64 0, .int .i64 0, .int .i64 0, .bool false, .bool false, .int .i64 0, .int .i64 0, .int .i64 0, .int .i64 0, .int .i64 0, .int .i64 0, .int .i64 0] 58)) (w.heap.size + 1) 56 #[.int .i64 a.xQ, .slice pa a.xViews.length ca] := by simpa using (Blk.new (w.alloc (.cells #[.slice p0 x.xTape.length c0, .slice p1 x.xUsed.length c1, .int .i64 x.xSent, .slice p2 x.xHeard.length c2, .int .i64 x.xCheat.xWho, .int .i64 x.xCheat.xAt, .int .i64 x.xCheat.xBy, .bool x.xCheat.xCry, .bool x.xQuarrel.xSome, .int .i64 x.xQuarrel.xFrom, .int .i64 x.xQuarrel.xCheck, .int .i64 x.xQuarrel.xTo, .int .i64 x.xQuarrel.xTold, .int .i64 x.xQuarrel.xHeard, .int .i64 x.xQuarrel.xOther, .int .i64 x.xQuarrel.xVowed] 40)) 56 #[.int .i64 a.xQ, .slice pa a.xViews.length ca]).alloc (.cells #[.int .i64 0, .int .i64 0, .slice none 0 0, .slice none 0 0, .slice none 0 0, .int .i64 0, .slice none 0 0, .int .i64 0, .int .i64 0, .int .i64 0, .bool false, .bool false, .int .i64 0, .int .i64 0, .int .i64 0, .int .i64 0, .int .i64 0, .int .i64 0, .int .i64 0] 58)
  have Y0 : Blk (((w.alloc (.cells #[.slice p0 x.xTape.length c0, .slice p1 x.xUsed.length c1, .int .i64 x.xSent, .slice p2 x.xHeard.length c2, .int .i64 x.xCheat.xWho, .int .i64 x.xCheat.xAt, .int .i64 x.xCheat.xBy, .bool x.xCheat.xCry, .bool x.xQuarrel.xSome, .int .i64 x.xQuarrel.xFrom, .int .i64 x.xQuarrel.xCheck, .int .i64 x.xQuarrel.xTo, .int .i64 x.xQuarrel.xTold, .int .i64 x.xQuarrel.xHeard, .int .i64 x.xQuarrel.xOther, .int .i64 x.xQuarrel.xVowed] 40)).alloc (.cells #[.int .i64 a.xQ, .slice pa a.xViews.length ca] 56)).alloc (.cells #[.int .i64 0, .int .i64 0, .slice none 0 0, .slice none 0 0, .slice none 0 0, .int .i64 0, .slice none 0 0, .int .i64 0, .int .i64 0, .int .i64 0, .bool false, .bool false, .int .i64 0, .int .i64 0, .int .i64 0, .int .i64 0, .int .i64 0, .int .i64 0, .int .i64 0] 58)) (w.heap.size + 2) 58 #[.int .i64 0, .int .i64 0, .slice none 0 0, .slice none 0 0, .slice none 0 0, .int .i64 0, .slice none 0 0, .int .i64 0, .int .i64 0, .int .i64 0, .bool false, .bool false, .int .i64 0, .int .i64 0, .int .i64 0, .int .i64 0, .int .i64 0, .int .i64 0, .int .i64 0] := by simpa using Blk.new ((w.alloc (.cells #[.slice p0 x.xTape.length c0, .slice p1 x.xUsed.length c1, .int .i64 x.xSent, .slice p2 x.xHeard.length c2, .int .i64 x.xCheat.xWho, .int .i64 x.xCheat.xAt, .int .i64 x.xCheat.xBy, .bool x.xCheat.xCry, .bool x.xQuarrel.xSome, .int .i64 x.xQuarrel.xFrom, .int .i64 x.xQuarrel.xCheck, .int .i64 x.xQuarrel.xTo, .int .i64 x.xQuarrel.xTold, .int .i64 x.xQuarrel.xHeard, .int .i64 x.xQuarrel.xOther, .int .i64 x.xQuarrel.xVowed] 40)).alloc (.cells #[.int .i64 a.xQ, .slice pa a.xViews.length ca] 56)) 58 #[.int .i64 0, .int .i64 0, .slice none 0 0, .slice none 0 0, .slice none 0 0, .int .i64 0, .slice none 0 0, .int .i64 0, .int .i64 0, .int .i64 0, .bool false, .bool false, .int .i64 0, .int .i64 0, .int .i64 0, .int .i64 0, .int .i64 0, .int .i64 0, .int .i64 0]
  have sz0 : Hid ((((w.alloc (.cells #[.slice p0 x.xTape.length c0, .slice p1 x.xUsed.length c1, .int .i64 x.xSent, .slice p2 x.xHeard.length c2, .int .i64 x.xCheat.xWho, .int .i64 x.xCheat.xAt, .int .i64 x.xCheat.xBy, .bool x.xCheat.xCry, .bool x.xQuarrel.xSome, .int .i64 x.xQuarrel.xFrom, .int .i64 x.xQuarrel.xCheck, .int .i64 x.xQuarrel.xTo, .int .i64 x.xQuarrel.xTold, .int .i64 x.xQuarrel.xHeard, .int .i64 x.xQuarrel.xOther, .int .i64 x.xQuarrel.xVowed] 40)).alloc (.cells #[.int .i64 a.xQ, .slice pa a.xViews.length ca] 56)).alloc (.cells #[.int .i64 0, .int .i64 0, .slice none 0 0, .slice none 0 0, .slice none 0 0, .int .i64 0, .slice none 0 0, .int .i64 0, .int .i64 0, .int .i64 0, .bool false, .bool false, .int .i64 0, .int .i64 0, .int .i64 0, .int .i64 0, .int .i64 0, .int .i64 0, .int .i64 0] 58)).heap.size = w.heap.size + 3) := by show _ = _; simp
  have KQ := spec_l5Free w.heap.size x p0 p1 p2 c0 c1 c2 _ X0 (g0.below B0) (g1.below B0) (g2.below B0)
  have K9 := fun W (hb : Below w.heap.size w W) (hX : Blk W (w.heap.size + 1) 56 #[.int .i64 a.xQ, .slice pa a.xViews.length ca]) => spec_l9Bit (w.heap.size + 1) a.xQ pa ca a.xViews W hX (ga.below hb)
  change ∀ W, Below w.heap.size w W → Blk W (w.heap.size + 1) 56 #[.int .i64 a.xQ, .slice pa a.xViews.length ca] → Calls _ _ _ W (fun e w' => e = .returned (.int .i64 (oqC 2 a)) ∧ _) at K9
  clear g0 g1 g2
  by_cases h0 : quietC x = 0
  · rw [h0] at KQ
    by_cases h1 : oqC 2 a = 0
    · rw [h1] at K9
      obtain ⟨zn, hqs⟩ := quietC_zero h0
      obtain ⟨h5, h6⟩ := oqC_zero h1
      obtain ⟨-, m1, m2, m3, m4⟩ := mirC_zero h5
      have hbd : ∀ i j, 0 ≤ pt a.xViews i j ∧ pt a.xViews i j < 256 := fun i j => by have h := m3 i j; rw [h6] at h; exact ⟨h.1, Int.lt_trans h.2 (by decide)⟩
      have NB := NetB.of zn hx
      have hH0 : 0 < x.xHeard.length := by rw [NB.h4]; omega
      have KX := fun W g bs hN hF => spec_l9Inject g (w.heap.size + 1) x bs 0 a.xViews W hN NB (by omega) hqs hF m4
      have HFR : Hid (∀ W, Blk W (w.heap.size + 1) 56 #[.int .i64 a.xQ, .slice pa a.xViews.length ca] → Below w.heap.size w W → Four W (w.heap.size + 1) 2 a.xViews) := fun W hX hB => ⟨_, by rw [h6] at hX; exact hX, ga.below hB, m1, m2, hbd⟩
      have HRES : Hid (ijR x a = ⟨0, mOf (ijX a.xViews.flatten x).xQuarrel.xSome 256 (ijF a.xViews.flatten x), ijX a.xViews.flatten x⟩) := by show _ = _; unfold ijR ofC; rw [if_pos h0, h1, oneR_ok]
      clear h0 h1 zn hqs h5 h6 m1 m2 m3 m4 hbd NB ga
      generalize ijX a.xViews.flatten x = x2 at *
      generalize ijF a.xViews.flatten x = fs at *
      go_enter Tryz.func28, Tryz.ntmps28
      go_wp2_with fail
      refine KQ.mono ?_
      rintro e w1 ⟨rfl, hq1⟩
      have hb1 : Below (((w.alloc (.cells #[.slice p0 x.xTape.length c0, .slice p1 x.xUsed.length c1, .int .i64 x.xSent, .slice p2 x.xHeard.length c2, .int .i64 x.xCheat.xWho, .int .i64 x.xCheat.xAt, .int .i64 x.xCheat.xBy, .bool x.xCheat.xCry, .bool x.xQuarrel.xSome, .int .i64 x.xQuarrel.xFrom, .int .i64 x.xQuarrel.xCheck, .int .i64 x.xQuarrel.xTo, .int .i64 x.xQuarrel.xTold, .int .i64 x.xQuarrel.xHeard, .int .i64 x.xQuarrel.xOther, .int .i64 x.xQuarrel.xVowed] 40)).alloc (.cells #[.int .i64 a.xQ, .slice pa a.xViews.length ca] 56)).alloc (.cells #[.int .i64 0, .int .i64 0, .slice none 0 0, .slice none 0 0, .slice none 0 0, .int .i64 0, .slice none 0 0, .int .i64 0, .int .i64 0, .int .i64 0, .bool false, .bool false, .int .i64 0, .int .i64 0, .int .i64 0, .int .i64 0, .int .i64 0, .int .i64 0, .int .i64 0] 58)).heap.size (((w.alloc (.cells #[.slice p0 x.xTape.length c0, .slice p1 x.xUsed.length c1, .int .i64 x.xSent, .slice p2 x.xHeard.length c2, .int .i64 x.xCheat.xWho, .int .i64 x.xCheat.xAt, .int .i64 x.xCheat.xBy, .bool x.xCheat.xCry, .bool x.xQuarrel.xSome, .int .i64 x.xQuarrel.xFrom, .int .i64 x.xQuarrel.xCheck, .int .i64 x.xQuarrel.xTo, .int .i64 x.xQuarrel.xTold, .int .i64 x.xQuarrel.xHeard, .int .i64 x.xQuarrel.xOther, .int .i64 x.xQuarrel.xVowed] 40)).alloc (.cells #[.int .i64 a.xQ, .slice pa a.xViews.length ca] 56)).alloc (.cells #[.int .i64 0, .int .i64 0, .slice none 0 0, .slice none 0 0, .slice none 0 0, .int .i64 0, .slice none 0 0, .int .i64 0, .int .i64 0, .int .i64 0, .bool false, .bool false, .int .i64 0, .int .i64 0, .int .i64 0, .int .i64 0, .int .i64 0, .int .i64 0, .int .i64 0] 58)) w1 := by rw [← hq1]; exact Below.refl _ _
      clear hq1
      have X1 := X0.keep hb1
      have XA1 := XA0.keep hb1
      have Y1 := Y0.keep hb1
      have B1 := B0.trans (hb1.mono B0.size)
      have sz1 : Hid (w.heap.size + 3 ≤ w1.heap.size) := by have := hb1.size; have := sz0.out; show _ ≤ _; omega
      clear X0 XA0 Y0 B0 hb1 KQ sz0
      go_wp2_with fail
      refine (K9 _ B1 XA1).mono ?_
      rintro e w1c ⟨rfl, hb1⟩
      replace X1 := X1.keep hb1
      replace XA1 := XA1.keep hb1
      replace Y1 := Y1.keep hb1
      replace B1 := B1.trans (hb1.mono B1.size)
      replace sz1 : Hid (w.heap.size + 3 ≤ w1c.heap.size) := Nat.le_trans sz1.out hb1.size
      clear hb1 K9
      go_wp2_with (refine wpList_load_blk rfl 40 _ rfl w.heap.size rfl X1 Tryz.underlying40 rfl (by kernel_rfl) ?_)
      refine (KC _ B1).mono ?_
      rintro e w1b ⟨q0, d0, q1, d1, q2, d2, bt, b1, b2, rfl, T1, U1, H1, j01, j02, j12, f0, f1, f2, hb1⟩
      have Y2 := Y1.keep hb1
      have XA2 := XA1.keep hb1
      have B2 := B1.trans (hb1.mono B1.size)
      have sz2 := Nat.le_trans sz1.out hb1.size
      have fw0 := fun y hy => Nat.le_trans sz1.out (f0 y hy)
      have fw1 := fun y hy => Nat.le_trans sz1.out (f1 y hy)
      have fw2 := fun y hy => Nat.le_trans sz1.out (f2 y hy)
      clear X1 XA1 Y1 B1 hb1 f0 f1 f2 KC sz1
      have Zn := Blk.new w1b 40 #[.slice none 0 0, .slice none 0 0, .int .i64 0, .slice none 0 0, .int .i64 0, .int .i64 0, .int .i64 0, .bool false, .bool false, .int .i64 0, .int .i64 0, .int .i64 0, .int .i64 0, .int .i64 0, .int .i64 0, .int .i64 0]
      go_wp2_with (refine wpList_store_blk rfl 40 _ _ rfl w1b.heap.size #[.slice q0 x.xTape.length d0, .slice q1 x.xUsed.length d1, .int .i64 x.xSent, .slice q2 x.xHeard.length d2, .int .i64 x.xCheat.xWho, .int .i64 x.xCheat.xAt, .int .i64 x.xCheat.xBy, .bool x.xCheat.xCry, .bool x.xQuarrel.xSome, .int .i64 x.xQuarrel.xFrom, .int .i64 x.xQuarrel.xCheck, .int .i64 x.xQuarrel.xTo, .int .i64 x.xQuarrel.xTold, .int .i64 x.xQuarrel.xHeard, .int .i64 x.xQuarrel.xOther, .int .i64 x.xQuarrel.xVowed] rfl rfl Zn rfl (by kernel_rfl) (by kernel_rfl) ?_; intro w2 Z2 O2)
      have O2' : Off [w1b.heap.size] w1b w2 := ((Off.refl _ _).alloc _).trans O2
      have N2 : NetIn w2 w1b.heap.size x (bt ++ (b1 ++ b2)) := NetIn.of Z2 (T1.off O2' (fun y hy hm => by have := T1.lt y hy; simp at hm; omega)) (U1.off O2' (fun y hy hm => by have := U1.lt y hy; simp at hm; omega)) (H1.off O2' (fun y hy hm => by have := H1.lt y hy; simp at hm; omega)) (fun hm => Nat.lt_irrefl _ (T1.lt _ hm)) (fun hm => Nat.lt_irrefl _ (U1.lt _ hm)) (fun hm => Nat.lt_irrefl _ (H1.lt _ hm)) j01 j02 j12 hH0
      have Y3 := Y2.off O2' (by simp; omega)
      have XA3 := XA2.off O2' (by simp; omega)
      have B3 : Below w.heap.size w w2 := B2.trans (O2'.toBelow B2.size (by have := B2.size; simp; omega))
      have hbs : ∀ y ∈ bt ++ (b1 ++ b2), w.heap.size + 3 ≤ y := fun y hy => by rcases List.mem_append.1 hy with h | h; (exact fw0 y h); (rcases List.mem_append.1 h with h | h; (exact fw1 y h); (exact fw2 y h))
      have lZ := Z2.lt
      clear Zn T1 U1 H1 O2 O2' Y2 XA2 B2 fw0 fw1 fw2 Z2 j01 j02 j12
      generalize bt ++ (b1 ++ b2) = bs at *
      generalize w1b.heap.size = g at *
      have hgg : ∀ y ∈ g :: bs, w.heap.size + 3 ≤ y := fun y hy => by rcases List.mem_cons.1 hy with h | h; omega; (exact hbs y h)
      have hgb : ∀ V, Off (g :: bs) w2 V → Below w.heap.size w V := fun V h => B3.trans (h.toBelow B3.size (fun y hy => by have := hgg y hy; omega))
      go_wp2_with fail
      refine (KX _ g bs N2 (HFR.out _ XA3 B3)).mono ?_
      rintro e w4 ⟨bn, p, c, bm, rfl, hM, hm12, N5, hbn, O5⟩
      have hm1 := fun y hy => (hm12 y hy).1
      have hm2 := fun y hy => (hm12 y hy).2
      have Y5 := Y3.off O5 (fun hm => by have := hgg _ hm; omega)
      have B5 := hgb _ O5
      have z3 := Y3.lt
      have hbn2 : ∀ y ∈ bn, w.heap.size + 3 ≤ y := fun y hy => by rcases hbn y hy with h | h; (exact hbs y h); omega
      have z5 := O5.size
      have lg5 := N5.lt
      have ly5 := Y5.lt
      clear Y3 XA3 B3 N2 KX O5 hgg hgb hbn hbs lZ HFR hm12
      generalize hmm : mOf x2.xQuarrel.xSome 256 fs = mm at *
      clear hmm
      have Vn := Blk.new w4 56 #[.int .i64 0, .slice none 0 0]
      have hlts := N5.lts
      obtain ⟨q0, q1, gH, d0, d1, d2, bt, b1, b2, Z5, T5, U5, H5, -, -, -, k01, k02, k12, rfl⟩ := N5
      go_wp2_with (first | (refine wpList_load_blk rfl 56 _ rfl w4.heap.size rfl V5 Tryz.underlying56 rfl (by kernel_rfl) ?_) | (refine wpList_load_blk rfl 40 _ rfl g rfl Z6 Tryz.underlying40 rfl (by kernel_rfl) ?_) | (refine wpList_store_blk rfl 58 _ _ rfl (w.heap.size + 2) (#[.int .i64 0, .int .i64 mm.xQ, .slice p mm.xViews.length c, .slice q0 x2.xTape.length d0, .slice q1 x2.xUsed.length d1, .int .i64 x2.xSent, .slice (some ⟨gH, 0, none⟩) x2.xHeard.length d2, .int .i64 x2.xCheat.xWho, .int .i64 x2.xCheat.xAt, .int .i64 x2.xCheat.xBy, .bool x2.xCheat.xCry, .bool x2.xQuarrel.xSome, .int .i64 x2.xQuarrel.xFrom, .int .i64 x2.xQuarrel.xCheck, .int .i64 x2.xQuarrel.xTo, .int .i64 x2.xQuarrel.xTold, .int .i64 x2.xQuarrel.xHeard, .int .i64 x2.xQuarrel.xOther, .int .i64 x2.xQuarrel.xVowed]) rfl rfl Y6 rfl (by kernel_rfl) (by kernel_rfl) ?_; intro w7 Y8 O8) | (refine wpList_store_blk rfl 56 _ _ rfl w4.heap.size #[.int .i64 mm.xQ, .slice p mm.xViews.length c] rfl rfl Vn rfl (by kernel_rfl) (by kernel_rfl) ?_; intro w5 V5 O6; have O6q : Off [w4.heap.size] w4 w5 := ((Off.refl _ _).alloc _).trans O6; have Z6 := Z5.off O6q (by simp; omega); have Y6 := Y5.off O6q (by simp; omega)))
      have nn : ∀ y, y < w4.heap.size → y ∉ [w4.heap.size] := fun y hy hm => by simp at hm; omega
      have T6 := T5.off O6q (fun y hy => nn y (T5.lt y hy))
      have U6 := U5.off O6q (fun y hy => nn y (U5.lt y hy))
      have H6 := H5.off O6q (fun y hy => nn y (H5.lt y hy))
      have B6 := B5.trans (O6q.toBelow B5.size (by have := B5.size; simp; omega))
      have M6 := hM.off O6q (fun y hy => nn y (hM.lt y hy))
      have ly6 := Y6.lt
      have z6 := O6q.size
      replace hlts := fun y hy => Nat.lt_of_lt_of_le (hlts y hy) z6
      exact bodyPost_ret (v := .agg #[.int .i64 0, .int .i64 mm.xQ, .slice p mm.xViews.length c, .slice q0 x2.xTape.length d0, .slice q1 x2.xUsed.length d1, .int .i64 x2.xSent, .slice (some ⟨gH, 0, none⟩) x2.xHeard.length d2, .int .i64 x2.xCheat.xWho, .int .i64 x2.xCheat.xAt, .int .i64 x2.xCheat.xBy, .bool x2.xCheat.xCry, .bool x2.xQuarrel.xSome, .int .i64 x2.xQuarrel.xFrom, .int .i64 x2.xQuarrel.xCheck, .int .i64 x2.xQuarrel.xTo, .int .i64 x2.xQuarrel.xTold, .int .i64 x2.xQuarrel.xHeard, .int .i64 x2.xQuarrel.xOther, .int .i64 x2.xQuarrel.xVowed]) (results_blk Tryz.results28 rfl Y8 Tryz.underlying58 rfl (by kernel_rfl)) rfl (by rw [HRES.out]; exact OutMix.of 0 T6 U6 H6 k01 k02 k12 (fun y hy => ⟨by have := hbn2 y hy; omega, O8.block y (hlts y hy) (by have := hbn2 y hy; simp; omega)⟩) (M6.off O8 (fun y hy hm => by have := hm1 y hy; simp at hm; omega)) (fun y hy => ⟨by have := hm1 y hy; omega, hm2 y hy⟩) (B6.trans (O8.toBelow B6.size (by simp))))
    · have HRES : Hid (ijR x a = badM (oqC 2 a)) := by show _ = _; unfold ijR ofC; rw [if_pos h0]; exact oneR_bad h1
      have hne : (oqC 2 a != 0) = true := by simpa using h1
      generalize oqC 2 a = r at *
      clear h0 h1 ga KC
      go_enter Tryz.func28, Tryz.ntmps28
      go_wp2_with fail
      refine KQ.mono ?_
      rintro e w1 ⟨rfl, hq1⟩
      have hb1 : Below (((w.alloc (.cells #[.slice p0 x.xTape.length c0, .slice p1 x.xUsed.length c1, .int .i64 x.xSent, .slice p2 x.xHeard.length c2, .int .i64 x.xCheat.xWho, .int .i64 x.xCheat.xAt, .int .i64 x.xCheat.xBy, .bool x.xCheat.xCry, .bool x.xQuarrel.xSome, .int .i64 x.xQuarrel.xFrom, .int .i64 x.xQuarrel.xCheck, .int .i64 x.xQuarrel.xTo, .int .i64 x.xQuarrel.xTold, .int .i64 x.xQuarrel.xHeard, .int .i64 x.xQuarrel.xOther, .int .i64 x.xQuarrel.xVowed] 40)).alloc (.cells #[.int .i64 a.xQ, .slice pa a.xViews.length ca] 56)).alloc (.cells #[.int .i64 0, .int .i64 0, .slice none 0 0, .slice none 0 0, .slice none 0 0, .int .i64 0, .slice none 0 0, .int .i64 0, .int .i64 0, .int .i64 0, .bool false, .bool false, .int .i64 0, .int .i64 0, .int .i64 0, .int .i64 0, .int .i64 0, .int .i64 0, .int .i64 0] 58)).heap.size (((w.alloc (.cells #[.slice p0 x.xTape.length c0, .slice p1 x.xUsed.length c1, .int .i64 x.xSent, .slice p2 x.xHeard.length c2, .int .i64 x.xCheat.xWho, .int .i64 x.xCheat.xAt, .int .i64 x.xCheat.xBy, .bool x.xCheat.xCry, .bool x.xQuarrel.xSome, .int .i64 x.xQuarrel.xFrom, .int .i64 x.xQuarrel.xCheck, .int .i64 x.xQuarrel.xTo, .int .i64 x.xQuarrel.xTold, .int .i64 x.xQuarrel.xHeard, .int .i64 x.xQuarrel.xOther, .int .i64 x.xQuarrel.xVowed] 40)).alloc (.cells #[.int .i64 a.xQ, .slice pa a.xViews.length ca] 56)).alloc (.cells #[.int .i64 0, .int .i64 0, .slice none 0 0, .slice none 0 0, .slice none 0 0, .int .i64 0, .slice none 0 0, .int .i64 0, .int .i64 0, .int .i64 0, .bool false, .bool false, .int .i64 0, .int .i64 0, .int .i64 0, .int .i64 0, .int .i64 0, .int .i64 0, .int .i64 0] 58)) w1 := by rw [← hq1]; exact Below.refl _ _
      clear hq1
      have X1 := X0.keep hb1
      have XA1 := XA0.keep hb1
      have Y1 := Y0.keep hb1
      have B1 := B0.trans (hb1.mono B0.size)
      have sz1 : Hid (w.heap.size + 3 ≤ w1.heap.size) := by have := hb1.size; have := sz0.out; show _ ≤ _; omega
      clear X0 XA0 Y0 B0 hb1 KQ sz0
      go_wp2_with fail
      refine (K9 _ B1 XA1).mono ?_
      rintro e w1c ⟨rfl, hb1⟩
      replace X1 := X1.keep hb1
      replace XA1 := XA1.keep hb1
      replace Y1 := Y1.keep hb1
      replace B1 := B1.trans (hb1.mono B1.size)
      replace sz1 : Hid (w.heap.size + 3 ≤ w1c.heap.size) := Nat.le_trans sz1.out hb1.size
      clear hb1 K9
      go_wp2_with fail
      refine (spec_l5Bad r _).mono ?_
      rintro e w2 ⟨rfl, hb2⟩
      have Y2 := Y1.keep hb2
      have B2 := B1.trans (hb2.mono B1.size)
      go_wp2_with (refine wpList_store_blk rfl 58 _ _ rfl (w.heap.size + 2) (#[.int .i64 r, .int .i64 0, .slice none 0 0, .slice none 0 0, .slice none 0 0, .int .i64 0, .slice none 0 0, .int .i64 0, .int .i64 0, .int .i64 0, .bool false, .bool false, .int .i64 0, .int .i64 0, .int .i64 0, .int .i64 0, .int .i64 0, .int .i64 0, .int .i64 0]) rfl rfl Y2 rfl (by kernel_rfl) (by kernel_rfl) ?_; intro w9 Y9 O9)
      have B9 : Below w.heap.size w w9 := B2.trans (O9.toBelow B2.size (by simp))
      exact bodyPost_ret (v := .agg #[.int .i64 r, .int .i64 0, .slice none 0 0, .slice none 0 0, .slice none 0 0, .int .i64 0, .slice none 0 0, .int .i64 0, .int .i64 0, .int .i64 0, .bool false, .bool false, .int .i64 0, .int .i64 0, .int .i64 0, .int .i64 0, .int .i64 0, .int .i64 0, .int .i64 0]) (results_blk Tryz.results28 rfl Y9 Tryz.underlying58 rfl (by kernel_rfl)) rfl (by rw [HRES.out]; exact OutMix.bad _ B9)
  · have HRES : Hid (ijR x a = badM (quietC x)) := by show _ = _; unfold ijR ofC; rw [if_neg h0]; exact oneR_bad h0
    have hne : (quietC x != 0) = true := by simpa using h0
    generalize quietC x = r at *
    clear h0 ga KC K9
    go_enter Tryz.func28, Tryz.ntmps28
    go_wp2_with fail
    refine KQ.mono ?_
    rintro e w1 ⟨rfl, hq1⟩
    have hb1 : Below (((w.alloc (.cells #[.slice p0 x.xTape.length c0, .slice p1 x.xUsed.length c1, .int .i64 x.xSent, .slice p2 x.xHeard.length c2, .int .i64 x.xCheat.xWho, .int .i64 x.xCheat.xAt, .int .i64 x.xCheat.xBy, .bool x.xCheat.xCry, .bool x.xQuarrel.xSome, .int .i64 x.xQuarrel.xFrom, .int .i64 x.xQuarrel.xCheck, .int .i64 x.xQuarrel.xTo, .int .i64 x.xQuarrel.xTold, .int .i64 x.xQuarrel.xHeard, .int .i64 x.xQuarrel.xOther, .int .i64 x.xQuarrel.xVowed] 40)).alloc (.cells #[.int .i64 a.xQ, .slice pa a.xViews.length ca] 56)).alloc (.cells #[.int .i64 0, .int .i64 0, .slice none 0 0, .slice none 0 0, .slice none 0 0, .int .i64 0, .slice none 0 0, .int .i64 0, .int .i64 0, .int .i64 0, .bool false, .bool false, .int .i64 0, .int .i64 0, .int .i64 0, .int .i64 0, .int .i64 0, .int .i64 0, .int .i64 0] 58)).heap.size (((w.alloc (.cells #[.slice p0 x.xTape.length c0, .slice p1 x.xUsed.length c1, .int .i64 x.xSent, .slice p2 x.xHeard.length c2, .int .i64 x.xCheat.xWho, .int .i64 x.xCheat.xAt, .int .i64 x.xCheat.xBy, .bool x.xCheat.xCry, .bool x.xQuarrel.xSome, .int .i64 x.xQuarrel.xFrom, .int .i64 x.xQuarrel.xCheck, .int .i64 x.xQuarrel.xTo, .int .i64 x.xQuarrel.xTold, .int .i64 x.xQuarrel.xHeard, .int .i64 x.xQuarrel.xOther, .int .i64 x.xQuarrel.xVowed] 40)).alloc (.cells #[.int .i64 a.xQ, .slice pa a.xViews.length ca] 56)).alloc (.cells #[.int .i64 0, .int .i64 0, .slice none 0 0, .slice none 0 0, .slice none 0 0, .int .i64 0, .slice none 0 0, .int .i64 0, .int .i64 0, .int .i64 0, .bool false, .bool false, .int .i64 0, .int .i64 0, .int .i64 0, .int .i64 0, .int .i64 0, .int .i64 0, .int .i64 0] 58)) w1 := by rw [← hq1]; exact Below.refl _ _
    clear hq1
    have X1 := X0.keep hb1
    have XA1 := XA0.keep hb1
    have Y1 := Y0.keep hb1
    have B1 := B0.trans (hb1.mono B0.size)
    have sz1 : Hid (w.heap.size + 3 ≤ w1.heap.size) := by have := hb1.size; have := sz0.out; show _ ≤ _; omega
    clear X0 XA0 Y0 B0 hb1 KQ sz0
    go_wp2_with fail
    refine (spec_l5Bad r _).mono ?_
    rintro e w2 ⟨rfl, hb2⟩
    have Y2 := Y1.keep hb2
    have B2 := B1.trans (hb2.mono B1.size)
    go_wp2_with (refine wpList_store_blk rfl 58 _ _ rfl (w.heap.size + 2) (#[.int .i64 r, .int .i64 0, .slice none 0 0, .slice none 0 0, .slice none 0 0, .int .i64 0, .slice none 0 0, .int .i64 0, .int .i64 0, .int .i64 0, .bool false, .bool false, .int .i64 0, .int .i64 0, .int .i64 0, .int .i64 0, .int .i64 0, .int .i64 0, .int .i64 0]) rfl rfl Y2 rfl (by kernel_rfl) (by kernel_rfl) ?_; intro w9 Y9 O9)
    have B9 : Below w.heap.size w w9 := B2.trans (O9.toBelow B2.size (by simp))
    exact bodyPost_ret (v := .agg #[.int .i64 r, .int .i64 0, .slice none 0 0, .slice none 0 0, .slice none 0 0, .int .i64 0, .slice none 0 0, .int .i64 0, .int .i64 0, .int .i64 0, .bool false, .bool false, .int .i64 0, .int .i64 0, .int .i64 0, .int .i64 0, .int .i64 0, .int .i64 0, .int .i64 0]) (results_blk Tryz.results28 rfl Y9 Tryz.underlying58 rfl (by kernel_rfl)) rfl (by rw [HRES.out]; exact OutMix.bad _ B9)
end Go.Proofs.YtepobckhfodnganGreat
