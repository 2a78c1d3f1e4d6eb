/-
  FnXors answers true whatever bytes it draws from: two bits in the ring are worth the one bit that they make together, or there is a quarrel and somebody cheats.
-/
import Derived.Test.YtepobckhfodngacGreatDraw13
import Derived.Test.YtepobckhfodngacGreatLawX
import Derived.Test.YtepobckhfodngacGreatXoI
import Derived.Test.YtepobckhfodngacGreatXoT
import Derived.Test.YtepobckhfodngacGreatMirR
import Derived.Test.YtepobckhfodngacGreatMirT
import Derived.Test.YtepobckhfodngacGreatLw
import Derived.Deep.RegionHeld3
import Derived.Deep.CutRange
import Derived.Deep.Cut
import Derived.Deep.RegionWith
import Derived.ShutString
import Derived.ChangeOld
import Derived.Below
namespace Go.Proofs.YtepobckhfodngacGreat.fnXors
open Go.ChangeShapes Go.WideShapes Go.ChangeAt Go.RowKit
open Go.ChangeMaps (open_string shut_string)
set_option linter.unusedVariables false

theorem own : ownKnob Tryz.prog.godebug = none := by kernel_rfl
theorem laidOut : laidOutB Tryz.prog = true := by kernel_rfl

theorem fieldMR_0 (x0 x1 x2 x3 x4 x5 x6 x7 x8 x9 x10 x11 x12 x13 x14 x15 x16 x17 x18 : Value) (w : World) : (Instr.field 39 (.agg #[x0, x1, x2, x3, x4, x5, x6, x7, x8, x9, x10, x11, x12, x13, x14, x15, x16, x17, x18]) 0).run Tryz.prog w = .ok x0 w := by kernel_rfl
theorem fieldMR_2 (x0 x1 x2 x3 x4 x5 x6 x7 x8 x9 x10 x11 x12 x13 x14 x15 x16 x17 x18 : Value) (w : World) : (Instr.field 39 (.agg #[x0, x1, x2, x3, x4, x5, x6, x7, x8, x9, x10, x11, x12, x13, x14, x15, x16, x17, x18]) 2).run Tryz.prog w = .ok (.agg #[x3, x4, x5, x6, x7, x8, x9, x10, x11, x12, x13, x14, x15, x16, x17, x18]) w := by kernel_rfl
theorem fieldNT_2 (x0 x1 x2 x3 x4 x5 x6 x7 x8 x9 x10 x11 x12 x13 x14 x15 : Value) (w : World) : (Instr.field 33 (.agg #[x0, x1, x2, x3, x4, x5, x6, x7, x8, x9, x10, x11, x12, x13, x14, x15]) 2).run Tryz.prog w = .ok x2 w := by kernel_rfl
theorem lwQuiet_at (x0 x1 x2 x3 x5 x6 x7 x8 x9 x10 x11 x12 x13 x14 x15 : Value) (who : Int) (w : World) : Calls Tryz.prog 11 #[.agg #[x0, x1, x2, x3, .int .i64 who, x5, x6, x7, x8, x9, x10, x11, x12, x13, x14, x15]] w fun e w' => e = .returned (.bool (decide (who < 0))) ∧ Below w.heap.size w w' := by
  have B : Below w.heap.size w (w.alloc (.cells #[x0, x1, x2, x3, .int .i64 who, x5, x6, x7, x8, x9, x10, x11, x12, x13, x14, x15] 33)) := (by repeat (first | exact Below.refl _ _ | refine Below.drew ?_ | refine below_drewN ?_ _ | refine Below.setCell ?_ (by first | omega | (simp; done) | (simp; omega)) _ | refine Below.alloc ?_ (by first | omega | (simp; done) | (simp; omega)) _))
  have X := (Blk.new w 33 #[x0, x1, x2, x3, .int .i64 who, x5, x6, x7, x8, x9, x10, x11, x12, x13, x14, x15])
  go_enter Tryz.func11, Tryz.ntmps11
  go_wp2
  go_ret
  exact ⟨rfl, B⟩
set_option maxHeartbeats 16000000 in
set_option maxRecDepth 100000 in
theorem walk (a0 : Option Addr) (len0 cap0 : Nat) (z0 : List Int) (w : World) (w0 : IsRow .u8 w a0 len0 cap0 z0) :
    Calls Tryz.prog 3 #[.slice a0 len0 cap0] w fun e w' => e = .returned (.bool true) ∧ Below w.heap.size w w' := by
  obtain ⟨zs, rfl, hr, hw⟩ := w0.reads
  clear w0
  have hby := bytes_of hw
  clear hw
  by_cases hl : 1048576 < zs.length
  · go_enter Tryz.func3, Tryz.ntmps3
    go_wp2_with fail
    refine (lwBig_yes _ _ _ _ hl).mono ?_
    rintro e w' ⟨rfl, rfl⟩
    go_wp2
    go_ret
    exact ⟨rfl, Below.refl _ _⟩
  · have hl' : zs.length ≤ 1048576 := by omega
    have HR0 : Hid (Reads w .u8 (.slice a0 zs.length cap0) zs) := hr
    clear hr
    have fm0 := fieldMR_0
    have fm2 := fieldMR_2
    have fn2 := fieldNT_2
    have fi0 := field_0
    have fi1 := field_1
    go_enter Tryz.func3, Tryz.ntmps3
    go_wp2_with fail
    refine (lwBig_no _ _ _ _ hl').mono ?_
    rintro e w' ⟨rfl, rfl⟩
    go_wp2_with fail
    refine (spec_DrawXorBits a0 cap0 zs w HR0.out hl' hby).mono ?_
    rintro e w1 ⟨u, x, v, v', A, E, rfl, rN0, hF, rA0, rE0, B⟩
    clear HR0
    obtain ⟨p0, c0, p1, c1, p2, c2, rfl, rn⟩ := rN0
    obtain ⟨pa, ca, rfl, ra⟩ := rA0
    obtain ⟨pb, cb, rfl, rb⟩ := rE0
    have rN : RdNet w1 (.agg #[.slice p0 x.xTape.length c0, .slice p1 x.xUsed.length c1, .int .i64 x.xSent, .slice p2 x.xHeard.length c2, .int .i64 x.xCheat.xWho, .int .i64 x.xCheat.xAt, .int .i64 x.xCheat.xBy, .bool x.xCheat.xCry, .bool x.xQuarrel.xSome, .int .i64 x.xQuarrel.xFrom, .int .i64 x.xQuarrel.xCheck, .int .i64 x.xQuarrel.xTo, .int .i64 x.xQuarrel.xTold, .int .i64 x.xQuarrel.xHeard, .int .i64 x.xQuarrel.xOther, .int .i64 x.xQuarrel.xVowed]) x := ⟨p0, c0, p1, c1, p2, c2, rfl, rn⟩
    have rA : RdMirror w1 (.agg #[.int .i64 A.xQ, .slice pa A.xViews.length ca]) A := ⟨pa, ca, rfl, ra⟩
    have rE : RdMirror w1 (.agg #[.int .i64 E.xQ, .slice pb E.xViews.length cb]) E := ⟨pb, cb, rfl, rb⟩
    have HF : Hid (Fit x) := hF
    clear hF rn ra rb
    have KX := fun W h h2 h3 => impl_XorBits (.agg #[.slice p0 x.xTape.length c0, .slice p1 x.xUsed.length c1, .int .i64 x.xSent, .slice p2 x.xHeard.length c2, .int .i64 x.xCheat.xWho, .int .i64 x.xCheat.xAt, .int .i64 x.xCheat.xBy, .bool x.xCheat.xCry, .bool x.xQuarrel.xSome, .int .i64 x.xQuarrel.xFrom, .int .i64 x.xQuarrel.xCheck, .int .i64 x.xQuarrel.xTo, .int .i64 x.xQuarrel.xTold, .int .i64 x.xQuarrel.xHeard, .int .i64 x.xQuarrel.xOther, .int .i64 x.xQuarrel.xVowed]) x (.agg #[.int .i64 A.xQ, .slice pa A.xViews.length ca]) A (.agg #[.int .i64 E.xQ, .slice pb E.xViews.length cb]) E W h HF.out h2 h3
    have KXS := fun W h h2 h3 => spec_XorBits (.agg #[.slice p0 x.xTape.length c0, .slice p1 x.xUsed.length c1, .int .i64 x.xSent, .slice p2 x.xHeard.length c2, .int .i64 x.xCheat.xWho, .int .i64 x.xCheat.xAt, .int .i64 x.xCheat.xBy, .bool x.xCheat.xCry, .bool x.xQuarrel.xSome, .int .i64 x.xQuarrel.xFrom, .int .i64 x.xQuarrel.xCheck, .int .i64 x.xQuarrel.xTo, .int .i64 x.xQuarrel.xTold, .int .i64 x.xQuarrel.xHeard, .int .i64 x.xQuarrel.xOther, .int .i64 x.xQuarrel.xVowed]) x (.agg #[.int .i64 A.xQ, .slice pa A.xViews.length ca]) A (.agg #[.int .i64 E.xQ, .slice pb E.xViews.length cb]) E W h HF.out h2 h3
    have HR1 : Hid ((xorR (xorC x A E) x A E).xCode = 0 → xorC x A E = 0) := fun h => by by_cases hc : xorC x A E = 0; (exact hc); (rw [xorR_bad hc] at h; exact absurd h hc)
    have HR2 : Hid (xorC x A E = 0 → xorR (xorC x A E) x A E = xorR 0 x A E) := fun h => by rw [h]
    generalize hRR : xorR (xorC x A E) x A E = R at *
    clear hRR
    have Zn : Blk (((w1.alloc (.cells #[.slice none 0 0, .slice none 0 0, .int .i64 0, .slice none 0 0, .int .i64 0, .int .i64 0, .int .i64 0, .bool false, .bool false, .int .i64 0, .int .i64 0, .int .i64 0, .int .i64 0, .int .i64 0, .int .i64 0, .int .i64 0] 33)).alloc (.cells #[.int .i64 0, .slice none 0 0] 35)).alloc (.cells #[.int .i64 0, .slice none 0 0] 35)) w1.heap.size 33 #[.slice none 0 0, .slice none 0 0, .int .i64 0, .slice none 0 0, .int .i64 0, .int .i64 0, .int .i64 0, .bool false, .bool false, .int .i64 0, .int .i64 0, .int .i64 0, .int .i64 0, .int .i64 0, .int .i64 0, .int .i64 0] := ((Blk.new w1 _ _).alloc _).alloc _
    have Zu : Blk (((w1.alloc (.cells #[.slice none 0 0, .slice none 0 0, .int .i64 0, .slice none 0 0, .int .i64 0, .int .i64 0, .int .i64 0, .bool false, .bool false, .int .i64 0, .int .i64 0, .int .i64 0, .int .i64 0, .int .i64 0, .int .i64 0, .int .i64 0] 33)).alloc (.cells #[.int .i64 0, .slice none 0 0] 35)).alloc (.cells #[.int .i64 0, .slice none 0 0] 35)) (w1.heap.size + 1) 35 #[.int .i64 0, .slice none 0 0] := by simpa using (Blk.new (w1.alloc (.cells #[.slice none 0 0, .slice none 0 0, .int .i64 0, .slice none 0 0, .int .i64 0, .int .i64 0, .int .i64 0, .bool false, .bool false, .int .i64 0, .int .i64 0, .int .i64 0, .int .i64 0, .int .i64 0, .int .i64 0, .int .i64 0] 33)) 35 #[.int .i64 0, .slice none 0 0]).alloc (.cells #[.int .i64 0, .slice none 0 0] 35)
    have Zw : Blk (((w1.alloc (.cells #[.slice none 0 0, .slice none 0 0, .int .i64 0, .slice none 0 0, .int .i64 0, .int .i64 0, .int .i64 0, .bool false, .bool false, .int .i64 0, .int .i64 0, .int .i64 0, .int .i64 0, .int .i64 0, .int .i64 0, .int .i64 0] 33)).alloc (.cells #[.int .i64 0, .slice none 0 0] 35)).alloc (.cells #[.int .i64 0, .slice none 0 0] 35)) (w1.heap.size + 1 + 1) 35 #[.int .i64 0, .slice none 0 0] := by simpa using Blk.new ((w1.alloc (.cells #[.slice none 0 0, .slice none 0 0, .int .i64 0, .slice none 0 0, .int .i64 0, .int .i64 0, .int .i64 0, .bool false, .bool false, .int .i64 0, .int .i64 0, .int .i64 0, .int .i64 0, .int .i64 0, .int .i64 0, .int .i64 0] 33)).alloc (.cells #[.int .i64 0, .slice none 0 0] 35)) 35 #[.int .i64 0, .slice none 0 0]
    have q3 : Below w1.heap.size w1 (((w1.alloc (.cells #[.slice none 0 0, .slice none 0 0, .int .i64 0, .slice none 0 0, .int .i64 0, .int .i64 0, .int .i64 0, .bool false, .bool false, .int .i64 0, .int .i64 0, .int .i64 0, .int .i64 0, .int .i64 0, .int .i64 0, .int .i64 0] 33)).alloc (.cells #[.int .i64 0, .slice none 0 0] 35)).alloc (.cells #[.int .i64 0, .slice none 0 0] 35)) := (((Below.refl _ _).alloc (Nat.le_refl _) _).alloc (by first | (simp; done) | (simp; omega)) _).alloc (by first | (simp; done) | (simp; omega)) _
    go_wp2_with (first | (refine wpList_store_blk rfl 33 _ _ rfl (w1.heap.size) (#[.slice p0 x.xTape.length c0, .slice p1 x.xUsed.length c1, .int .i64 x.xSent, .slice p2 x.xHeard.length c2, .int .i64 x.xCheat.xWho, .int .i64 x.xCheat.xAt, .int .i64 x.xCheat.xBy, .bool x.xCheat.xCry, .bool x.xQuarrel.xSome, .int .i64 x.xQuarrel.xFrom, .int .i64 x.xQuarrel.xCheck, .int .i64 x.xQuarrel.xTo, .int .i64 x.xQuarrel.xTold, .int .i64 x.xQuarrel.xHeard, .int .i64 x.xQuarrel.xOther, .int .i64 x.xQuarrel.xVowed]) rfl rfl Zn rfl (by kernel_rfl) (by kernel_rfl) ?_; intro wa XN1 O1; have Zu1 := Zu.off O1 (by first | (simp; done) | (simp; omega)); have Zw1 := Zw.off O1 (by first | (simp; done) | (simp; omega))) | (refine wpList_store_blk rfl 35 _ _ rfl (w1.heap.size + 1) (#[.int .i64 A.xQ, .slice pa A.xViews.length ca]) rfl rfl Zu1 rfl (by kernel_rfl) (by kernel_rfl) ?_; intro wb XU1 O2; have XN2 := XN1.off O2 (by first | (simp; done) | (simp; omega)); have Zw2 := Zw1.off O2 (by first | (simp; done) | (simp; omega))) | (refine wpList_store_blk rfl 35 _ _ rfl (w1.heap.size + 1 + 1) (#[.int .i64 E.xQ, .slice pb E.xViews.length cb]) rfl rfl Zw2 rfl (by kernel_rfl) (by kernel_rfl) ?_; intro wd XW O3; have XN := XN2.off O3 (by first | (simp; done) | (simp; omega)); have XU := XU1.off O3 (by first | (simp; done) | (simp; omega))) | (refine wpList_load_blk rfl 33 _ rfl (w1.heap.size) rfl XN Tryz.underlying33 rfl (by kernel_rfl) ?_) | (refine wpList_load_blk rfl 35 _ rfl (w1.heap.size + 1) rfl XU Tryz.underlying35 rfl (by kernel_rfl) ?_) | (refine wpList_load_blk rfl 35 _ rfl (w1.heap.size + 1 + 1) rfl XW Tryz.underlying35 rfl (by kernel_rfl) ?_))
    have k3 : Below w1.heap.size w1 wd := ((q3.trans (O1.toBelow q3.size (by first | (simp; done) | (simp; omega)))).trans (O2.toBelow (Nat.le_trans q3.size O1.size) (by first | (simp; done) | (simp; omega)))).trans (O3.toBelow (Nat.le_trans (Nat.le_trans q3.size O1.size) O2.size) (by first | (simp; done) | (simp; omega)))
    clear Zn Zu Zw XN1 Zu1 Zw1 XU1 XN2 Zw2 O1 O2 O3 q3
    replace rN := rN.below k3
    replace rA := rA.below k3
    replace rE := rE.below k3
    replace B := B.trans (k3.mono B.size)
    clear k3
    generalize hb12 : w1.heap.size = b12 at *
    clear hb12
    generalize hb13 : b12 + 1 = b13 at *
    clear hb13
    generalize hb14 : b13 + 1 = b14 at *
    clear hb14
    refine Calls.at (F := fun V => Blk V b12 33 #[.slice p0 x.xTape.length c0, .slice p1 x.xUsed.length c1, .int .i64 x.xSent, .slice p2 x.xHeard.length c2, .int .i64 x.xCheat.xWho, .int .i64 x.xCheat.xAt, .int .i64 x.xCheat.xBy, .bool x.xCheat.xCry, .bool x.xQuarrel.xSome, .int .i64 x.xQuarrel.xFrom, .int .i64 x.xQuarrel.xCheck, .int .i64 x.xQuarrel.xTo, .int .i64 x.xQuarrel.xTold, .int .i64 x.xQuarrel.xHeard, .int .i64 x.xQuarrel.xOther, .int .i64 x.xQuarrel.xVowed] ∧ Blk V b13 35 #[.int .i64 A.xQ, .slice pa A.xViews.length ca] ∧ Blk V b14 35 #[.int .i64 E.xQ, .slice pb E.xViews.length cb] ∧ RdNet V (.agg #[.slice p0 x.xTape.length c0, .slice p1 x.xUsed.length c1, .int .i64 x.xSent, .slice p2 x.xHeard.length c2, .int .i64 x.xCheat.xWho, .int .i64 x.xCheat.xAt, .int .i64 x.xCheat.xBy, .bool x.xCheat.xCry, .bool x.xQuarrel.xSome, .int .i64 x.xQuarrel.xFrom, .int .i64 x.xQuarrel.xCheck, .int .i64 x.xQuarrel.xTo, .int .i64 x.xQuarrel.xTold, .int .i64 x.xQuarrel.xHeard, .int .i64 x.xQuarrel.xOther, .int .i64 x.xQuarrel.xVowed]) x ∧ RdMirror V (.agg #[.int .i64 A.xQ, .slice pa A.xViews.length ca]) A ∧ RdMirror V (.agg #[.int .i64 E.xQ, .slice pb E.xViews.length cb]) E ∧ Below w.heap.size w V) ⟨XN, XU, XW, rN, rA, rE, B⟩ ?_
    clear XN XU XW rN rA rE B
    rintro V1 ⟨XN, XU, XW, rN, rA, rE, B⟩
    refine (KX _ rN rA rE).mono ?_
    rintro e w2 ⟨u6, bb0, bb1, bb2, bb3, rfl, ON, -, -, -, -, k2⟩
    obtain ⟨q0, d0, q1, d1, q2, d2, q3, d3, rfl, m0, m1, m2, m3, -⟩ := ON
    have rM : RdMirror w2 (.agg #[.int .i64 R.xMirror.xQ, .slice q0 R.xMirror.xViews.length d0]) R.xMirror := ⟨q0, d0, rfl, m0.reads⟩
    clear m0 m1 m2 m3 KX
    replace XN := XN.keep k2
    replace XU := XU.keep k2
    replace XW := XW.keep k2
    replace rN := rN.below k2
    replace rA := rA.below k2
    replace rE := rE.below k2
    replace B := B.trans (k2.mono B.size)
    clear k2
    by_cases hf : R.xCode = 0
    · as_aux_lemma =>
        have ef : (R.xCode != 0) = false := by simpa using hf
        have hcs := HR1.out hf
        have HCS : Hid (xorC x A E = 0) := hcs
        have HRR : Hid (R = xorR 0 x A E) := HR2.out hcs
        have e2 : (R.xNet.xSent == R.xNet.xSent) = true := by simp
        clear hf hcs HR1 HR2
        have Zr := Blk.new w2 39 #[.int .i64 0, .int .i64 0, .slice none 0 0, .slice none 0 0, .slice none 0 0, .int .i64 0, .slice none 0 0, .int .i64 0, .int .i64 0, .int .i64 0, .bool false, .bool false, .int .i64 0, .int .i64 0, .int .i64 0, .int .i64 0, .int .i64 0, .int .i64 0, .int .i64 0]
        go_wp2_with (first | (refine wpList_store_blk rfl 39 _ _ rfl w2.heap.size (#[.int .i64 R.xCode, .int .i64 R.xMirror.xQ, .slice q0 R.xMirror.xViews.length d0, .slice q1 R.xNet.xTape.length d1, .slice q2 R.xNet.xUsed.length d2, .int .i64 R.xNet.xSent, .slice q3 R.xNet.xHeard.length d3, .int .i64 R.xNet.xCheat.xWho, .int .i64 R.xNet.xCheat.xAt, .int .i64 R.xNet.xCheat.xBy, .bool R.xNet.xCheat.xCry, .bool R.xNet.xQuarrel.xSome, .int .i64 R.xNet.xQuarrel.xFrom, .int .i64 R.xNet.xQuarrel.xCheck, .int .i64 R.xNet.xQuarrel.xTo, .int .i64 R.xNet.xQuarrel.xTold, .int .i64 R.xNet.xQuarrel.xHeard, .int .i64 R.xNet.xQuarrel.xOther, .int .i64 R.xNet.xQuarrel.xVowed]) rfl rfl Zr rfl (by kernel_rfl) (by kernel_rfl) ?_; intro wy XR O6; have XRa := XR.at.1; have XRl := XR.lt; have XU6 := XU.off (((Off.refl [w2.heap.size] w2).alloc _).trans O6) (by have := XU.lt; simp; omega)) | (refine wpList_load_blk rfl 35 _ rfl (b13) rfl XU6 Tryz.underlying35 rfl (by kernel_rfl) ?_))
        have K6 : Below w2.heap.size w2 wy := ((Below.refl _ _).alloc (Nat.le_refl _) _).trans (O6.toBelow (by simp) (by simp))
        replace XN := XN.keep K6
        replace XU := XU.keep K6
        replace XW := XW.keep K6
        replace rN := rN.below K6
        replace rA := rA.below K6
        replace rE := rE.below K6
        replace rM := rM.below K6
        replace B := B.trans (K6.mono B.size)
        clear K6 O6 Zr XRa XRl XU6
        generalize w2.heap.size = b15 at *
        have KA1 := fun W h => impl_IsAlike (.agg #[.int .i64 A.xQ, .slice pa A.xViews.length ca]) A (-1) W h
        have KA2 := fun W h => impl_IsAlike (.agg #[.int .i64 E.xQ, .slice pb E.xViews.length cb]) E (-1) W h
        have HX : Hid (isAlikeR A.xQ A.xViews (-1) = true → isAlikeR E.xQ E.xViews (-1) = true → XorsF x A E (xorR 0 x A E)) := fun h1 h2 => xorsF HCS.out h1 h2
        generalize isAlikeR A.xQ A.xViews (-1) = bA at *
        generalize isAlikeR E.xQ E.xViews (-1) = bE at *
        refine (KA1 _ rA).mono ?_
        rintro e w3 ⟨rfl, k3⟩
        clear KA1
        replace XN := XN.keep k3
        replace XU := XU.keep k3
        replace XW := XW.keep k3
        replace XR := XR.keep k3
        replace rN := rN.below k3
        replace rA := rA.below k3
        replace rE := rE.below k3
        replace rM := rM.below k3
        replace B := B.trans (k3.mono B.size)
        clear k3
        cases bA
        · as_aux_lemma =>
            clear HX
            go_wp2_with fail
            refine wp_region_held (S := fun V => (∀ o, V.cell? ⟨b12, o, none⟩ = (#[.slice p0 x.xTape.length c0, .slice p1 x.xUsed.length c1, .int .i64 x.xSent, .slice p2 x.xHeard.length c2, .int .i64 x.xCheat.xWho, .int .i64 x.xCheat.xAt, .int .i64 x.xCheat.xBy, .bool x.xCheat.xCry, .bool x.xQuarrel.xSome, .int .i64 x.xQuarrel.xFrom, .int .i64 x.xQuarrel.xCheck, .int .i64 x.xQuarrel.xTo, .int .i64 x.xQuarrel.xTold, .int .i64 x.xQuarrel.xHeard, .int .i64 x.xQuarrel.xOther, .int .i64 x.xQuarrel.xVowed] : Array Value)[o]?) ∧ (∀ o, V.cell? ⟨b13, o, none⟩ = (#[.int .i64 A.xQ, .slice pa A.xViews.length ca] : Array Value)[o]?) ∧ (∀ o, V.cell? ⟨b14, o, none⟩ = (#[.int .i64 E.xQ, .slice pb E.xViews.length cb] : Array Value)[o]?) ∧ (∀ o, V.cell? ⟨b15, o, none⟩ = (#[.int .i64 R.xCode, .int .i64 R.xMirror.xQ, .slice q0 R.xMirror.xViews.length d0, .slice q1 R.xNet.xTape.length d1, .slice q2 R.xNet.xUsed.length d2, .int .i64 R.xNet.xSent, .slice q3 R.xNet.xHeard.length d3, .int .i64 R.xNet.xCheat.xWho, .int .i64 R.xNet.xCheat.xAt, .int .i64 R.xNet.xCheat.xBy, .bool R.xNet.xCheat.xCry, .bool R.xNet.xQuarrel.xSome, .int .i64 R.xNet.xQuarrel.xFrom, .int .i64 R.xNet.xQuarrel.xCheck, .int .i64 R.xNet.xQuarrel.xTo, .int .i64 R.xNet.xQuarrel.xTold, .int .i64 R.xNet.xQuarrel.xHeard, .int .i64 R.xNet.xQuarrel.xOther, .int .i64 R.xNet.xQuarrel.xVowed] : Array Value)[o]?)) (by kernel_rfl) ?_
            try (change wpAnyH _ _ _ _ _ _ _ _ (World.drew _))
            replace XN := XN.drew
            replace XU := XU.drew
            replace XW := XW.drew
            replace XR := XR.drew
            replace rN := rN.below (Below.refl _ _).drew
            replace rA := rA.below (Below.refl _ _).drew
            replace rE := rE.below (Below.refl _ _).drew
            replace rM := rM.below (Below.refl _ _).drew
            replace B := B.drew
            have hS : (∀ o, w3.drew.cell? ⟨b12, o, none⟩ = (#[.slice p0 x.xTape.length c0, .slice p1 x.xUsed.length c1, .int .i64 x.xSent, .slice p2 x.xHeard.length c2, .int .i64 x.xCheat.xWho, .int .i64 x.xCheat.xAt, .int .i64 x.xCheat.xBy, .bool x.xCheat.xCry, .bool x.xQuarrel.xSome, .int .i64 x.xQuarrel.xFrom, .int .i64 x.xQuarrel.xCheck, .int .i64 x.xQuarrel.xTo, .int .i64 x.xQuarrel.xTold, .int .i64 x.xQuarrel.xHeard, .int .i64 x.xQuarrel.xOther, .int .i64 x.xQuarrel.xVowed] : Array Value)[o]?) ∧ (∀ o, w3.drew.cell? ⟨b13, o, none⟩ = (#[.int .i64 A.xQ, .slice pa A.xViews.length ca] : Array Value)[o]?) ∧ (∀ o, w3.drew.cell? ⟨b14, o, none⟩ = (#[.int .i64 E.xQ, .slice pb E.xViews.length cb] : Array Value)[o]?) ∧ (∀ o, w3.drew.cell? ⟨b15, o, none⟩ = (#[.int .i64 R.xCode, .int .i64 R.xMirror.xQ, .slice q0 R.xMirror.xViews.length d0, .slice q1 R.xNet.xTape.length d1, .slice q2 R.xNet.xUsed.length d2, .int .i64 R.xNet.xSent, .slice q3 R.xNet.xHeard.length d3, .int .i64 R.xNet.xCheat.xWho, .int .i64 R.xNet.xCheat.xAt, .int .i64 R.xNet.xCheat.xBy, .bool R.xNet.xCheat.xCry, .bool R.xNet.xQuarrel.xSome, .int .i64 R.xNet.xQuarrel.xFrom, .int .i64 R.xNet.xQuarrel.xCheck, .int .i64 R.xNet.xQuarrel.xTo, .int .i64 R.xNet.xQuarrel.xTold, .int .i64 R.xNet.xQuarrel.xHeard, .int .i64 R.xNet.xQuarrel.xOther, .int .i64 R.xNet.xQuarrel.xVowed] : Array Value)[o]?) := ⟨XN.at.1, XU.at.1, XW.at.1, XR.at.1⟩
            refine wpAnyH_take (i := 0) (v := ?vn329) rfl (by kernel_rfl) (by kernel_rfl) (by kernel_rfl) (fun _ _ _ h => h) (Or.inl ⟨by rfl, ?hn329⟩) hS ?rn329
            case hn329 => intro w' hSw; go_simp; (try with_reducible rfl)
            (try simp only [List.getElem_toArray]); (try simp only [List.getElem_cons_succ]); (try simp only [List.getElem_cons_zero]); (try simp only [Act.put]); (try simp only [List.setIfInBounds_toArray]); (try simp only [List.set_cons_succ]); (try simp only [List.set_cons_zero])
            refine wpAnyH_take (i := 1) (v := ?vn330) rfl (by kernel_rfl) (by kernel_rfl) (by kernel_rfl) (fun _ _ _ h => h) (Or.inl ⟨by rfl, ?hn330⟩) hS ?rn330
            case hn330 => intro w' hSw; go_simp; (try with_reducible rfl)
            (try simp only [List.getElem_toArray]); (try simp only [List.getElem_cons_succ]); (try simp only [List.getElem_cons_zero]); (try simp only [Act.put]); (try simp only [List.setIfInBounds_toArray]); (try simp only [List.set_cons_succ]); (try simp only [List.set_cons_zero])
            refine wpAnyH_take (i := 2) (v := ?vn331) rfl (by kernel_rfl) (by kernel_rfl) (by kernel_rfl) (fun _ _ _ h => h) (Or.inl ⟨by rfl, ?hn331⟩) hS ?rn331
            case hn331 => intro w' hSw; go_simp; (try with_reducible rfl)
            (try simp only [List.getElem_toArray]); (try simp only [List.getElem_cons_succ]); (try simp only [List.getElem_cons_zero]); (try simp only [Act.put]); (try simp only [List.setIfInBounds_toArray]); (try simp only [List.set_cons_succ]); (try simp only [List.set_cons_zero])
            refine wpAnyH_take (i := 3) (v := ?vn332) rfl (by kernel_rfl) (by kernel_rfl) (by kernel_rfl) (fun _ _ _ h => h) (Or.inl ⟨by rfl, ?hn332⟩) hS ?rn332
            case hn332 => intro w' hSw; go_simp; (try with_reducible rfl)
            (try simp only [List.getElem_toArray]); (try simp only [List.getElem_cons_succ]); (try simp only [List.getElem_cons_zero]); (try simp only [Act.put]); (try simp only [List.setIfInBounds_toArray]); (try simp only [List.set_cons_succ]); (try simp only [List.set_cons_zero])
            refine wpAnyH_take (i := 4) (v := ?vn333) rfl (by kernel_rfl) (by kernel_rfl) (by kernel_rfl) (fun _ _ _ h => h) (Or.inl ⟨by rfl, ?hn333⟩) hS ?rn333
            case hn333 => intro w' hSw; go_simp; (try with_reducible rfl)
            (try simp only [List.getElem_toArray]); (try simp only [List.getElem_cons_succ]); (try simp only [List.getElem_cons_zero]); (try simp only [Act.put]); (try simp only [List.setIfInBounds_toArray]); (try simp only [List.set_cons_succ]); (try simp only [List.set_cons_zero])
            refine wpAnyH_take (i := 5) (v := ?vn334) rfl (by kernel_rfl) (by kernel_rfl) (by kernel_rfl) (fun _ _ _ h => h) (Or.inl ⟨by rfl, ?hn334⟩) hS ?rn334
            case hn334 => intro w' hSw; go_simp; (try with_reducible rfl)
            (try simp only [List.getElem_toArray]); (try simp only [List.getElem_cons_succ]); (try simp only [List.getElem_cons_zero]); (try simp only [Act.put]); (try simp only [List.setIfInBounds_toArray]); (try simp only [List.set_cons_succ]); (try simp only [List.set_cons_zero])
            refine wpAnyH_ready (rs := [6]) (by kernel_rfl) (by simp) ?_
            refine AllReadyH.cons (o := _) rfl (fun K hK => ?_) AllReadyH.nil
            rw [if_pos (by rfl)]
            go_simp
            go_at_call 9
            clear hS
            refine (KXS _ rN rA rE).mono ?_
            rintro e w4 ⟨u9, bc0, bc1, bc2, bc3, rfl, ON9, -, -, -, -, k4⟩
            obtain ⟨s0, t0, s1, t1, s2, t2, s3, t3, rfl, -⟩ := ON9
            replace XN := XN.keep k4
            replace XU := XU.keep k4
            replace XW := XW.keep k4
            replace XR := XR.keep k4
            replace rN := rN.below k4
            replace rA := rA.below k4
            replace rE := rE.below k4
            replace rM := rM.below k4
            replace B := B.trans (k4.mono B.size)
            clear k4
            have hS : (∀ o, w4.cell? ⟨b12, o, none⟩ = (#[.slice p0 x.xTape.length c0, .slice p1 x.xUsed.length c1, .int .i64 x.xSent, .slice p2 x.xHeard.length c2, .int .i64 x.xCheat.xWho, .int .i64 x.xCheat.xAt, .int .i64 x.xCheat.xBy, .bool x.xCheat.xCry, .bool x.xQuarrel.xSome, .int .i64 x.xQuarrel.xFrom, .int .i64 x.xQuarrel.xCheck, .int .i64 x.xQuarrel.xTo, .int .i64 x.xQuarrel.xTold, .int .i64 x.xQuarrel.xHeard, .int .i64 x.xQuarrel.xOther, .int .i64 x.xQuarrel.xVowed] : Array Value)[o]?) ∧ (∀ o, w4.cell? ⟨b13, o, none⟩ = (#[.int .i64 A.xQ, .slice pa A.xViews.length ca] : Array Value)[o]?) ∧ (∀ o, w4.cell? ⟨b14, o, none⟩ = (#[.int .i64 E.xQ, .slice pb E.xViews.length cb] : Array Value)[o]?) ∧ (∀ o, w4.cell? ⟨b15, o, none⟩ = (#[.int .i64 R.xCode, .int .i64 R.xMirror.xQ, .slice q0 R.xMirror.xViews.length d0, .slice q1 R.xNet.xTape.length d1, .slice q2 R.xNet.xUsed.length d2, .int .i64 R.xNet.xSent, .slice q3 R.xNet.xHeard.length d3, .int .i64 R.xNet.xCheat.xWho, .int .i64 R.xNet.xCheat.xAt, .int .i64 R.xNet.xCheat.xBy, .bool R.xNet.xCheat.xCry, .bool R.xNet.xQuarrel.xSome, .int .i64 R.xNet.xQuarrel.xFrom, .int .i64 R.xNet.xQuarrel.xCheck, .int .i64 R.xNet.xQuarrel.xTo, .int .i64 R.xNet.xQuarrel.xTold, .int .i64 R.xNet.xQuarrel.xHeard, .int .i64 R.xNet.xQuarrel.xOther, .int .i64 R.xNet.xQuarrel.xVowed] : Array Value)[o]?) := ⟨XN.at.1, XU.at.1, XW.at.1, XR.at.1⟩
            refine hK.out _ _ hS (fun hS => ?_)
            clear hK K
            (try simp only [List.getElem_toArray]); (try simp only [List.getElem_cons_succ]); (try simp only [List.getElem_cons_zero]); (try simp only [Act.put]); (try simp only [List.setIfInBounds_toArray]); (try simp only [List.set_cons_succ]); (try simp only [List.set_cons_zero])
            refine wpAnyH_take (i := 7) (v := ?vn335) rfl (by kernel_rfl) (by kernel_rfl) (by kernel_rfl) (fun _ _ _ h => h) (Or.inl ⟨by rfl, ?hn335⟩) hS ?rn335
            case hn335 => intro w' hSw; go_simp; (try with_reducible rfl)
            (try simp only [List.getElem_toArray]); (try simp only [List.getElem_cons_succ]); (try simp only [List.getElem_cons_zero]); (try simp only [Act.put]); (try simp only [List.setIfInBounds_toArray]); (try simp only [List.set_cons_succ]); (try simp only [List.set_cons_zero])
            refine wpAnyH_take (i := 8) (v := ?vn336) rfl (by kernel_rfl) (by kernel_rfl) (by kernel_rfl) (fun _ _ _ h => h) (Or.inl ⟨by rfl, ?hn336⟩) hS ?rn336
            case hn336 => intro w' hSw; go_simp; (try with_reducible rfl)
            (try simp only [List.getElem_toArray]); (try simp only [List.getElem_cons_succ]); (try simp only [List.getElem_cons_zero]); (try simp only [Act.put]); (try simp only [List.setIfInBounds_toArray]); (try simp only [List.set_cons_succ]); (try simp only [List.set_cons_zero])
            refine wpAnyH_take (i := 9) (v := ?vn337) rfl (by kernel_rfl) (by kernel_rfl) (by kernel_rfl) (fun _ _ _ h => h) (Or.inl ⟨by rfl, ?hn337⟩) hS ?rn337
            case hn337 => intro w' hSw; go_simp; (try with_reducible rfl)
            (try simp only [List.getElem_toArray]); (try simp only [List.getElem_cons_succ]); (try simp only [List.getElem_cons_zero]); (try simp only [Act.put]); (try simp only [List.setIfInBounds_toArray]); (try simp only [List.set_cons_succ]); (try simp only [List.set_cons_zero])
            refine wpAnyH_take (i := 10) (v := ?vn338) rfl (by kernel_rfl) (by kernel_rfl) (by kernel_rfl) (fun _ _ _ h => h) (Or.inl ⟨by rfl, ?hn338⟩) hS ?rn338
            case hn338 => intro w' hSw; go_simp; (try with_reducible rfl)
            (try simp only [List.getElem_toArray]); (try simp only [List.getElem_cons_succ]); (try simp only [List.getElem_cons_zero]); (try simp only [Act.put]); (try simp only [List.setIfInBounds_toArray]); (try simp only [List.set_cons_succ]); (try simp only [List.set_cons_zero])
            refine wpAnyH_done (by kernel_rfl) ?_ _
            clear hS
            go_wp2
            go_ret
            exact ⟨rfl, B⟩
        · skip
          have XWa := XW.at.1
          have XWl := XW.lt
          go_wp2_with fail
          clear XWa XWl
          refine (KA2 _ rE).mono ?_
          rintro e w5 ⟨rfl, k5⟩
          clear KA2
          replace XN := XN.keep k5
          replace XU := XU.keep k5
          replace XW := XW.keep k5
          replace XR := XR.keep k5
          replace rN := rN.below k5
          replace rA := rA.below k5
          replace rE := rE.below k5
          replace rM := rM.below k5
          replace B := B.trans (k5.mono B.size)
          clear k5
          cases bE
          · as_aux_lemma =>
              clear HX
              go_wp2_with fail
              refine wp_region_held (S := fun V => (∀ o, V.cell? ⟨b12, o, none⟩ = (#[.slice p0 x.xTape.length c0, .slice p1 x.xUsed.length c1, .int .i64 x.xSent, .slice p2 x.xHeard.length c2, .int .i64 x.xCheat.xWho, .int .i64 x.xCheat.xAt, .int .i64 x.xCheat.xBy, .bool x.xCheat.xCry, .bool x.xQuarrel.xSome, .int .i64 x.xQuarrel.xFrom, .int .i64 x.xQuarrel.xCheck, .int .i64 x.xQuarrel.xTo, .int .i64 x.xQuarrel.xTold, .int .i64 x.xQuarrel.xHeard, .int .i64 x.xQuarrel.xOther, .int .i64 x.xQuarrel.xVowed] : Array Value)[o]?) ∧ (∀ o, V.cell? ⟨b13, o, none⟩ = (#[.int .i64 A.xQ, .slice pa A.xViews.length ca] : Array Value)[o]?) ∧ (∀ o, V.cell? ⟨b14, o, none⟩ = (#[.int .i64 E.xQ, .slice pb E.xViews.length cb] : Array Value)[o]?) ∧ (∀ o, V.cell? ⟨b15, o, none⟩ = (#[.int .i64 R.xCode, .int .i64 R.xMirror.xQ, .slice q0 R.xMirror.xViews.length d0, .slice q1 R.xNet.xTape.length d1, .slice q2 R.xNet.xUsed.length d2, .int .i64 R.xNet.xSent, .slice q3 R.xNet.xHeard.length d3, .int .i64 R.xNet.xCheat.xWho, .int .i64 R.xNet.xCheat.xAt, .int .i64 R.xNet.xCheat.xBy, .bool R.xNet.xCheat.xCry, .bool R.xNet.xQuarrel.xSome, .int .i64 R.xNet.xQuarrel.xFrom, .int .i64 R.xNet.xQuarrel.xCheck, .int .i64 R.xNet.xQuarrel.xTo, .int .i64 R.xNet.xQuarrel.xTold, .int .i64 R.xNet.xQuarrel.xHeard, .int .i64 R.xNet.xQuarrel.xOther, .int .i64 R.xNet.xQuarrel.xVowed] : Array Value)[o]?)) (by kernel_rfl) ?_
              try (change wpAnyH _ _ _ _ _ _ _ _ (World.drew _))
              replace XN := XN.drew
              replace XU := XU.drew
              replace XW := XW.drew
              replace XR := XR.drew
              replace rN := rN.below (Below.refl _ _).drew
              replace rA := rA.below (Below.refl _ _).drew
              replace rE := rE.below (Below.refl _ _).drew
              replace rM := rM.below (Below.refl _ _).drew
              replace B := B.drew
              have hS : (∀ o, w5.drew.cell? ⟨b12, o, none⟩ = (#[.slice p0 x.xTape.length c0, .slice p1 x.xUsed.length c1, .int .i64 x.xSent, .slice p2 x.xHeard.length c2, .int .i64 x.xCheat.xWho, .int .i64 x.xCheat.xAt, .int .i64 x.xCheat.xBy, .bool x.xCheat.xCry, .bool x.xQuarrel.xSome, .int .i64 x.xQuarrel.xFrom, .int .i64 x.xQuarrel.xCheck, .int .i64 x.xQuarrel.xTo, .int .i64 x.xQuarrel.xTold, .int .i64 x.xQuarrel.xHeard, .int .i64 x.xQuarrel.xOther, .int .i64 x.xQuarrel.xVowed] : Array Value)[o]?) ∧ (∀ o, w5.drew.cell? ⟨b13, o, none⟩ = (#[.int .i64 A.xQ, .slice pa A.xViews.length ca] : Array Value)[o]?) ∧ (∀ o, w5.drew.cell? ⟨b14, o, none⟩ = (#[.int .i64 E.xQ, .slice pb E.xViews.length cb] : Array Value)[o]?) ∧ (∀ o, w5.drew.cell? ⟨b15, o, none⟩ = (#[.int .i64 R.xCode, .int .i64 R.xMirror.xQ, .slice q0 R.xMirror.xViews.length d0, .slice q1 R.xNet.xTape.length d1, .slice q2 R.xNet.xUsed.length d2, .int .i64 R.xNet.xSent, .slice q3 R.xNet.xHeard.length d3, .int .i64 R.xNet.xCheat.xWho, .int .i64 R.xNet.xCheat.xAt, .int .i64 R.xNet.xCheat.xBy, .bool R.xNet.xCheat.xCry, .bool R.xNet.xQuarrel.xSome, .int .i64 R.xNet.xQuarrel.xFrom, .int .i64 R.xNet.xQuarrel.xCheck, .int .i64 R.xNet.xQuarrel.xTo, .int .i64 R.xNet.xQuarrel.xTold, .int .i64 R.xNet.xQuarrel.xHeard, .int .i64 R.xNet.xQuarrel.xOther, .int .i64 R.xNet.xQuarrel.xVowed] : Array Value)[o]?) := ⟨XN.at.1, XU.at.1, XW.at.1, XR.at.1⟩
              refine wpAnyH_take (i := 0) (v := ?vn339) rfl (by kernel_rfl) (by kernel_rfl) (by kernel_rfl) (fun _ _ _ h => h) (Or.inl ⟨by rfl, ?hn339⟩) hS ?rn339
              case hn339 => intro w' hSw; go_simp; (try with_reducible rfl)
              (try simp only [List.getElem_toArray]); (try simp only [List.getElem_cons_succ]); (try simp only [List.getElem_cons_zero]); (try simp only [Act.put]); (try simp only [List.setIfInBounds_toArray]); (try simp only [List.set_cons_succ]); (try simp only [List.set_cons_zero])
              refine wpAnyH_take (i := 1) (v := ?vn340) rfl (by kernel_rfl) (by kernel_rfl) (by kernel_rfl) (fun _ _ _ h => h) (Or.inl ⟨by rfl, ?hn340⟩) hS ?rn340
              case hn340 => intro w' hSw; go_simp; (try with_reducible rfl)
              (try simp only [List.getElem_toArray]); (try simp only [List.getElem_cons_succ]); (try simp only [List.getElem_cons_zero]); (try simp only [Act.put]); (try simp only [List.setIfInBounds_toArray]); (try simp only [List.set_cons_succ]); (try simp only [List.set_cons_zero])
              refine wpAnyH_take (i := 2) (v := ?vn341) rfl (by kernel_rfl) (by kernel_rfl) (by kernel_rfl) (fun _ _ _ h => h) (Or.inl ⟨by rfl, ?hn341⟩) hS ?rn341
              case hn341 => intro w' hSw; go_simp; (try with_reducible rfl)
              (try simp only [List.getElem_toArray]); (try simp only [List.getElem_cons_succ]); (try simp only [List.getElem_cons_zero]); (try simp only [Act.put]); (try simp only [List.setIfInBounds_toArray]); (try simp only [List.set_cons_succ]); (try simp only [List.set_cons_zero])
              refine wpAnyH_take (i := 3) (v := ?vn342) rfl (by kernel_rfl) (by kernel_rfl) (by kernel_rfl) (fun _ _ _ h => h) (Or.inl ⟨by rfl, ?hn342⟩) hS ?rn342
              case hn342 => intro w' hSw; go_simp; (try with_reducible rfl)
              (try simp only [List.getElem_toArray]); (try simp only [List.getElem_cons_succ]); (try simp only [List.getElem_cons_zero]); (try simp only [Act.put]); (try simp only [List.setIfInBounds_toArray]); (try simp only [List.set_cons_succ]); (try simp only [List.set_cons_zero])
              refine wpAnyH_take (i := 4) (v := ?vn343) rfl (by kernel_rfl) (by kernel_rfl) (by kernel_rfl) (fun _ _ _ h => h) (Or.inl ⟨by rfl, ?hn343⟩) hS ?rn343
              case hn343 => intro w' hSw; go_simp; (try with_reducible rfl)
              (try simp only [List.getElem_toArray]); (try simp only [List.getElem_cons_succ]); (try simp only [List.getElem_cons_zero]); (try simp only [Act.put]); (try simp only [List.setIfInBounds_toArray]); (try simp only [List.set_cons_succ]); (try simp only [List.set_cons_zero])
              refine wpAnyH_take (i := 5) (v := ?vn344) rfl (by kernel_rfl) (by kernel_rfl) (by kernel_rfl) (fun _ _ _ h => h) (Or.inl ⟨by rfl, ?hn344⟩) hS ?rn344
              case hn344 => intro w' hSw; go_simp; (try with_reducible rfl)
              (try simp only [List.getElem_toArray]); (try simp only [List.getElem_cons_succ]); (try simp only [List.getElem_cons_zero]); (try simp only [Act.put]); (try simp only [List.setIfInBounds_toArray]); (try simp only [List.set_cons_succ]); (try simp only [List.set_cons_zero])
              refine wpAnyH_ready (rs := [6]) (by kernel_rfl) (by simp) ?_
              refine AllReadyH.cons (o := _) rfl (fun K hK => ?_) AllReadyH.nil
              rw [if_pos (by rfl)]
              go_simp
              go_at_call 9
              clear hS
              refine (KXS _ rN rA rE).mono ?_
              rintro e w6 ⟨u9, bc0, bc1, bc2, bc3, rfl, ON9, -, -, -, -, k6⟩
              obtain ⟨s0, t0, s1, t1, s2, t2, s3, t3, rfl, -⟩ := ON9
              replace XN := XN.keep k6
              replace XU := XU.keep k6
              replace XW := XW.keep k6
              replace XR := XR.keep k6
              replace rN := rN.below k6
              replace rA := rA.below k6
              replace rE := rE.below k6
              replace rM := rM.below k6
              replace B := B.trans (k6.mono B.size)
              clear k6
              have hS : (∀ o, w6.cell? ⟨b12, o, none⟩ = (#[.slice p0 x.xTape.length c0, .slice p1 x.xUsed.length c1, .int .i64 x.xSent, .slice p2 x.xHeard.length c2, .int .i64 x.xCheat.xWho, .int .i64 x.xCheat.xAt, .int .i64 x.xCheat.xBy, .bool x.xCheat.xCry, .bool x.xQuarrel.xSome, .int .i64 x.xQuarrel.xFrom, .int .i64 x.xQuarrel.xCheck, .int .i64 x.xQuarrel.xTo, .int .i64 x.xQuarrel.xTold, .int .i64 x.xQuarrel.xHeard, .int .i64 x.xQuarrel.xOther, .int .i64 x.xQuarrel.xVowed] : Array Value)[o]?) ∧ (∀ o, w6.cell? ⟨b13, o, none⟩ = (#[.int .i64 A.xQ, .slice pa A.xViews.length ca] : Array Value)[o]?) ∧ (∀ o, w6.cell? ⟨b14, o, none⟩ = (#[.int .i64 E.xQ, .slice pb E.xViews.length cb] : Array Value)[o]?) ∧ (∀ o, w6.cell? ⟨b15, o, none⟩ = (#[.int .i64 R.xCode, .int .i64 R.xMirror.xQ, .slice q0 R.xMirror.xViews.length d0, .slice q1 R.xNet.xTape.length d1, .slice q2 R.xNet.xUsed.length d2, .int .i64 R.xNet.xSent, .slice q3 R.xNet.xHeard.length d3, .int .i64 R.xNet.xCheat.xWho, .int .i64 R.xNet.xCheat.xAt, .int .i64 R.xNet.xCheat.xBy, .bool R.xNet.xCheat.xCry, .bool R.xNet.xQuarrel.xSome, .int .i64 R.xNet.xQuarrel.xFrom, .int .i64 R.xNet.xQuarrel.xCheck, .int .i64 R.xNet.xQuarrel.xTo, .int .i64 R.xNet.xQuarrel.xTold, .int .i64 R.xNet.xQuarrel.xHeard, .int .i64 R.xNet.xQuarrel.xOther, .int .i64 R.xNet.xQuarrel.xVowed] : Array Value)[o]?) := ⟨XN.at.1, XU.at.1, XW.at.1, XR.at.1⟩
              refine hK.out _ _ hS (fun hS => ?_)
              clear hK K
              (try simp only [List.getElem_toArray]); (try simp only [List.getElem_cons_succ]); (try simp only [List.getElem_cons_zero]); (try simp only [Act.put]); (try simp only [List.setIfInBounds_toArray]); (try simp only [List.set_cons_succ]); (try simp only [List.set_cons_zero])
              refine wpAnyH_take (i := 7) (v := ?vn345) rfl (by kernel_rfl) (by kernel_rfl) (by kernel_rfl) (fun _ _ _ h => h) (Or.inl ⟨by rfl, ?hn345⟩) hS ?rn345
              case hn345 => intro w' hSw; go_simp; (try with_reducible rfl)
              (try simp only [List.getElem_toArray]); (try simp only [List.getElem_cons_succ]); (try simp only [List.getElem_cons_zero]); (try simp only [Act.put]); (try simp only [List.setIfInBounds_toArray]); (try simp only [List.set_cons_succ]); (try simp only [List.set_cons_zero])
              refine wpAnyH_take (i := 8) (v := ?vn346) rfl (by kernel_rfl) (by kernel_rfl) (by kernel_rfl) (fun _ _ _ h => h) (Or.inl ⟨by rfl, ?hn346⟩) hS ?rn346
              case hn346 => intro w' hSw; go_simp; (try with_reducible rfl)
              (try simp only [List.getElem_toArray]); (try simp only [List.getElem_cons_succ]); (try simp only [List.getElem_cons_zero]); (try simp only [Act.put]); (try simp only [List.setIfInBounds_toArray]); (try simp only [List.set_cons_succ]); (try simp only [List.set_cons_zero])
              refine wpAnyH_take (i := 9) (v := ?vn347) rfl (by kernel_rfl) (by kernel_rfl) (by kernel_rfl) (fun _ _ _ h => h) (Or.inl ⟨by rfl, ?hn347⟩) hS ?rn347
              case hn347 => intro w' hSw; go_simp; (try with_reducible rfl)
              (try simp only [List.getElem_toArray]); (try simp only [List.getElem_cons_succ]); (try simp only [List.getElem_cons_zero]); (try simp only [Act.put]); (try simp only [List.setIfInBounds_toArray]); (try simp only [List.set_cons_succ]); (try simp only [List.set_cons_zero])
              refine wpAnyH_take (i := 10) (v := ?vn348) rfl (by kernel_rfl) (by kernel_rfl) (by kernel_rfl) (fun _ _ _ h => h) (Or.inl ⟨by rfl, ?hn348⟩) hS ?rn348
              case hn348 => intro w' hSw; go_simp; (try with_reducible rfl)
              (try simp only [List.getElem_toArray]); (try simp only [List.getElem_cons_succ]); (try simp only [List.getElem_cons_zero]); (try simp only [Act.put]); (try simp only [List.setIfInBounds_toArray]); (try simp only [List.set_cons_succ]); (try simp only [List.set_cons_zero])
              refine wpAnyH_done (by kernel_rfl) ?_ _
              clear hS
              go_wp2
              go_ret
              exact ⟨rfl, B⟩
          · have HX2 : XorsF x A E (xorR 0 x A E) := by first | exact HX.out rfl rfl | exact HX.out trivial rfl | exact HX.out trivial trivial | exact HX.out | simpa using HX.out
            rw [← HRR.out] at HX2
            obtain ⟨HX1, ⟨hx0, hx1, hy0, hy1⟩, hst⟩ := HX2
            clear HX HRR KXS
            rcases HX1 with ⟨g0, g1, g2⟩ | ⟨g0, g1⟩
            · as_aux_lemma =>
                have KVA := fun W h => impl_ValueOf (.agg #[.int .i64 A.xQ, .slice pa A.xViews.length ca]) A (-1) W h
                have KVE := fun W h => impl_ValueOf (.agg #[.int .i64 E.xQ, .slice pb E.xViews.length cb]) E (-1) W h
                have KV := fun W h => impl_ValueOf (.agg #[.int .i64 R.xMirror.xQ, .slice q0 R.xMirror.xViews.length d0]) R.xMirror (-1) W h
                rw [g2] at KV
                generalize valueR A.xQ A.xViews (-1) = VA at *
                generalize valueR E.xQ E.xViews (-1) = VE at *
                clear g2
                have hxy0 := Int.mul_nonneg hx0 hy0
                have hxy1 : VA.xValue * VE.xValue ≤ 255 * 255 := Int.mul_le_mul hx1 hy1 hy0 (by omega)
                rw [← Int.mul_assoc] at KV
                have em : 2 * VA.xValue * VE.xValue = 2 * (VA.xValue * VE.xValue) := Int.mul_assoc _ _ _
                have ew1 : IntKind.i64.wrap (VA.xValue + VE.xValue) = VA.xValue + VE.xValue := by rw [IntKind.wrap_i64]; omega
                have ew2 : IntKind.i64.wrap (2 * VA.xValue) = 2 * VA.xValue := by rw [IntKind.wrap_i64]; omega
                have ew3 : IntKind.i64.wrap (2 * VA.xValue * VE.xValue) = 2 * VA.xValue * VE.xValue := by rw [em, IntKind.wrap_i64]; omega
                have ew4 : IntKind.i64.wrap (VA.xValue + VE.xValue - 2 * VA.xValue * VE.xValue) = VA.xValue + VE.xValue - 2 * VA.xValue * VE.xValue := by rw [em, IntKind.wrap_i64]; omega
                clear em hxy0 hxy1 hx0 hx1 hy0 hy1
                have KM := fun W => (lwMod_at 256 (VA.xValue + VE.xValue - 2 * VA.xValue * VE.xValue) W (by omega) (by omega)).mono (fun e w' h => (⟨h.1, h.2 ▸ Below.refl _ _⟩ : e = _ ∧ Below W.heap.size W w'))
                generalize hmm : (VA.xValue + VE.xValue - 2 * VA.xValue * VE.xValue) % 256 = mm at *
                clear hmm
                have e4 : (mm == mm) = true := by simp
                have ew : IntKind.i64.wrap (x.xSent + 12) = x.xSent + 12 := by rw [IntKind.wrap_i64]; omega
                have e5 : (R.xNet.xSent == x.xSent + 12) = true := by simpa using g1
                have G0 : Hid (R.xNet.xQuarrel.xSome = false) := g0
                clear g0 g1 hst
                have XRa := XR.at.1
                have XRl := XR.lt
                rw [G0.out] at XRa
                go_wp2_with (first | (refine wpList_load_blk rfl 35 _ rfl (b13) rfl XU Tryz.underlying35 rfl (by kernel_rfl) ?_))
                clear XRa XRl
                refine (KVA _ rA).mono ?_
                rintro e w7 ⟨u, rfl, rfl, k7⟩
                clear KVA
                replace XN := XN.keep k7
                replace XU := XU.keep k7
                replace XW := XW.keep k7
                replace XR := XR.keep k7
                replace rN := rN.below k7
                replace rA := rA.below k7
                replace rE := rE.below k7
                replace rM := rM.below k7
                replace B := B.trans (k7.mono B.size)
                clear k7
                go_wp2_with (first | (refine wpList_load_blk rfl 35 _ rfl (b14) rfl XW Tryz.underlying35 rfl (by kernel_rfl) ?_))
                refine (KVE _ rE).mono ?_
                rintro e w8 ⟨u, rfl, rfl, k8⟩
                clear KVE
                replace XN := XN.keep k8
                replace XU := XU.keep k8
                replace XW := XW.keep k8
                replace XR := XR.keep k8
                replace rN := rN.below k8
                replace rA := rA.below k8
                replace rE := rE.below k8
                replace rM := rM.below k8
                replace B := B.trans (k8.mono B.size)
                clear k8
                have XRa := XR.at.1
                have XRl := XR.lt
                have XNa := XN.at.1
                have XNl := XN.lt
                go_wp2_with fail
                clear XRa XRl XNa XNl
                refine (KV _ rM).mono ?_
                rintro e w9 ⟨u, rfl, rfl, k9⟩
                replace XN := XN.keep k9
                replace XU := XU.keep k9
                replace XW := XW.keep k9
                replace XR := XR.keep k9
                replace rN := rN.below k9
                replace rA := rA.below k9
                replace rE := rE.below k9
                replace rM := rM.below k9
                replace B := B.trans (k9.mono B.size)
                clear k9
                have XRa := XR.at.1
                have XRl := XR.lt
                have XNa := XN.at.1
                have XNl := XN.lt
                go_wp2_with fail
                clear XRa XRl XNa XNl
                refine (KM _).mono ?_
                rintro e w10 ⟨rfl, k10⟩
                clear KM
                replace XN := XN.keep k10
                replace XU := XU.keep k10
                replace XW := XW.keep k10
                replace XR := XR.keep k10
                replace rN := rN.below k10
                replace rA := rA.below k10
                replace rE := rE.below k10
                replace rM := rM.below k10
                replace B := B.trans (k10.mono B.size)
                clear k10
                have XRa := XR.at.1
                have XRl := XR.lt
                have XNa := XN.at.1
                have XNl := XN.lt
                go_wp2_with fail
                clear XRa XRl XNa XNl
                refine (KV _ rM).mono ?_
                rintro e w11 ⟨u, rfl, rfl, k11⟩
                replace XN := XN.keep k11
                replace XU := XU.keep k11
                replace XW := XW.keep k11
                replace XR := XR.keep k11
                replace rN := rN.below k11
                replace rA := rA.below k11
                replace rE := rE.below k11
                replace rM := rM.below k11
                replace B := B.trans (k11.mono B.size)
                clear k11
                have XRa := XR.at.1
                have XRl := XR.lt
                have XNa := XN.at.1
                have XNl := XN.lt
                go_wp2
                go_ret
                exact ⟨rfl, B⟩
            · as_aux_lemma =>
                have KL := fun W => lwQuiet_at (.slice p0 x.xTape.length c0) (.slice p1 x.xUsed.length c1) (.int .i64 x.xSent) (.slice p2 x.xHeard.length c2) (.int .i64 x.xCheat.xAt) (.int .i64 x.xCheat.xBy) (.bool x.xCheat.xCry) (.bool x.xQuarrel.xSome) (.int .i64 x.xQuarrel.xFrom) (.int .i64 x.xQuarrel.xCheck) (.int .i64 x.xQuarrel.xTo) (.int .i64 x.xQuarrel.xTold) (.int .i64 x.xQuarrel.xHeard) (.int .i64 x.xQuarrel.xOther) (.int .i64 x.xQuarrel.xVowed) x.xCheat.xWho W
                have hw : decide (x.xCheat.xWho < 0) = false := by simp; omega
                rw [hw] at KL
                have G0 : Hid (R.xNet.xQuarrel.xSome = true) := g0
                clear g0 g1 hst hw hx0 hx1 hy0 hy1
                have XRa := XR.at.1
                have XRl := XR.lt
                rw [G0.out] at XRa
                go_wp2_with (first | (refine wpList_load_blk rfl 33 _ rfl (b12) rfl XN Tryz.underlying33 rfl (by kernel_rfl) ?_))
                clear XRa XRl
                refine (KL _).mono ?_
                rintro e w12 ⟨rfl, k12⟩
                clear KL
                replace XN := XN.keep k12
                replace XU := XU.keep k12
                replace XW := XW.keep k12
                replace XR := XR.keep k12
                replace rN := rN.below k12
                replace rA := rA.below k12
                replace rE := rE.below k12
                replace rM := rM.below k12
                replace B := B.trans (k12.mono B.size)
                clear k12
                go_wp2
                go_ret
                exact ⟨rfl, B⟩
    · as_aux_lemma =>
        have ef : (R.xCode != 0) = true := by simpa using hf
        have eq : (R.xCode == R.xCode) = true := by simp
        clear hf HR1 HR2
        have Zr := Blk.new w2 39 #[.int .i64 0, .int .i64 0, .slice none 0 0, .slice none 0 0, .slice none 0 0, .int .i64 0, .slice none 0 0, .int .i64 0, .int .i64 0, .int .i64 0, .bool false, .bool false, .int .i64 0, .int .i64 0, .int .i64 0, .int .i64 0, .int .i64 0, .int .i64 0, .int .i64 0]
        go_wp2_with (first | (refine wpList_store_blk rfl 39 _ _ rfl w2.heap.size (#[.int .i64 R.xCode, .int .i64 R.xMirror.xQ, .slice q0 R.xMirror.xViews.length d0, .slice q1 R.xNet.xTape.length d1, .slice q2 R.xNet.xUsed.length d2, .int .i64 R.xNet.xSent, .slice q3 R.xNet.xHeard.length d3, .int .i64 R.xNet.xCheat.xWho, .int .i64 R.xNet.xCheat.xAt, .int .i64 R.xNet.xCheat.xBy, .bool R.xNet.xCheat.xCry, .bool R.xNet.xQuarrel.xSome, .int .i64 R.xNet.xQuarrel.xFrom, .int .i64 R.xNet.xQuarrel.xCheck, .int .i64 R.xNet.xQuarrel.xTo, .int .i64 R.xNet.xQuarrel.xTold, .int .i64 R.xNet.xQuarrel.xHeard, .int .i64 R.xNet.xQuarrel.xOther, .int .i64 R.xNet.xQuarrel.xVowed]) rfl rfl Zr rfl (by kernel_rfl) (by kernel_rfl) ?_; intro wy XR O6; have XRa := XR.at.1; have XRl := XR.lt; have XU6 := XU.off (((Off.refl [w2.heap.size] w2).alloc _).trans O6) (by have := XU.lt; simp; omega)) | (refine wpList_load_blk rfl 35 _ rfl (b13) rfl XU6 Tryz.underlying35 rfl (by kernel_rfl) ?_))
        have K6 : Below w2.heap.size w2 wy := ((Below.refl _ _).alloc (Nat.le_refl _) _).trans (O6.toBelow (by simp) (by simp))
        replace XN := XN.keep K6
        replace XU := XU.keep K6
        replace XW := XW.keep K6
        replace rN := rN.below K6
        replace rA := rA.below K6
        replace rE := rE.below K6
        replace rM := rM.below K6
        replace B := B.trans (K6.mono B.size)
        clear K6 O6 Zr XRa XRl XU6
        generalize w2.heap.size = b15 at *
        refine wp_region_held (S := fun V => (∀ o, V.cell? ⟨b12, o, none⟩ = (#[.slice p0 x.xTape.length c0, .slice p1 x.xUsed.length c1, .int .i64 x.xSent, .slice p2 x.xHeard.length c2, .int .i64 x.xCheat.xWho, .int .i64 x.xCheat.xAt, .int .i64 x.xCheat.xBy, .bool x.xCheat.xCry, .bool x.xQuarrel.xSome, .int .i64 x.xQuarrel.xFrom, .int .i64 x.xQuarrel.xCheck, .int .i64 x.xQuarrel.xTo, .int .i64 x.xQuarrel.xTold, .int .i64 x.xQuarrel.xHeard, .int .i64 x.xQuarrel.xOther, .int .i64 x.xQuarrel.xVowed] : Array Value)[o]?) ∧ (∀ o, V.cell? ⟨b13, o, none⟩ = (#[.int .i64 A.xQ, .slice pa A.xViews.length ca] : Array Value)[o]?) ∧ (∀ o, V.cell? ⟨b14, o, none⟩ = (#[.int .i64 E.xQ, .slice pb E.xViews.length cb] : Array Value)[o]?) ∧ (∀ o, V.cell? ⟨b15, o, none⟩ = (#[.int .i64 R.xCode, .int .i64 R.xMirror.xQ, .slice q0 R.xMirror.xViews.length d0, .slice q1 R.xNet.xTape.length d1, .slice q2 R.xNet.xUsed.length d2, .int .i64 R.xNet.xSent, .slice q3 R.xNet.xHeard.length d3, .int .i64 R.xNet.xCheat.xWho, .int .i64 R.xNet.xCheat.xAt, .int .i64 R.xNet.xCheat.xBy, .bool R.xNet.xCheat.xCry, .bool R.xNet.xQuarrel.xSome, .int .i64 R.xNet.xQuarrel.xFrom, .int .i64 R.xNet.xQuarrel.xCheck, .int .i64 R.xNet.xQuarrel.xTo, .int .i64 R.xNet.xQuarrel.xTold, .int .i64 R.xNet.xQuarrel.xHeard, .int .i64 R.xNet.xQuarrel.xOther, .int .i64 R.xNet.xQuarrel.xVowed] : Array Value)[o]?)) (by kernel_rfl) ?_
        try (change wpAnyH _ _ _ _ _ _ _ _ (World.drew _))
        replace XN := XN.drew
        replace XU := XU.drew
        replace XW := XW.drew
        replace XR := XR.drew
        replace rN := rN.below (Below.refl _ _).drew
        replace rA := rA.below (Below.refl _ _).drew
        replace rE := rE.below (Below.refl _ _).drew
        replace rM := rM.below (Below.refl _ _).drew
        replace B := B.drew
        have hS : (∀ o, wy.drew.cell? ⟨b12, o, none⟩ = (#[.slice p0 x.xTape.length c0, .slice p1 x.xUsed.length c1, .int .i64 x.xSent, .slice p2 x.xHeard.length c2, .int .i64 x.xCheat.xWho, .int .i64 x.xCheat.xAt, .int .i64 x.xCheat.xBy, .bool x.xCheat.xCry, .bool x.xQuarrel.xSome, .int .i64 x.xQuarrel.xFrom, .int .i64 x.xQuarrel.xCheck, .int .i64 x.xQuarrel.xTo, .int .i64 x.xQuarrel.xTold, .int .i64 x.xQuarrel.xHeard, .int .i64 x.xQuarrel.xOther, .int .i64 x.xQuarrel.xVowed] : Array Value)[o]?) ∧ (∀ o, wy.drew.cell? ⟨b13, o, none⟩ = (#[.int .i64 A.xQ, .slice pa A.xViews.length ca] : Array Value)[o]?) ∧ (∀ o, wy.drew.cell? ⟨b14, o, none⟩ = (#[.int .i64 E.xQ, .slice pb E.xViews.length cb] : Array Value)[o]?) ∧ (∀ o, wy.drew.cell? ⟨b15, o, none⟩ = (#[.int .i64 R.xCode, .int .i64 R.xMirror.xQ, .slice q0 R.xMirror.xViews.length d0, .slice q1 R.xNet.xTape.length d1, .slice q2 R.xNet.xUsed.length d2, .int .i64 R.xNet.xSent, .slice q3 R.xNet.xHeard.length d3, .int .i64 R.xNet.xCheat.xWho, .int .i64 R.xNet.xCheat.xAt, .int .i64 R.xNet.xCheat.xBy, .bool R.xNet.xCheat.xCry, .bool R.xNet.xQuarrel.xSome, .int .i64 R.xNet.xQuarrel.xFrom, .int .i64 R.xNet.xQuarrel.xCheck, .int .i64 R.xNet.xQuarrel.xTo, .int .i64 R.xNet.xQuarrel.xTold, .int .i64 R.xNet.xQuarrel.xHeard, .int .i64 R.xNet.xQuarrel.xOther, .int .i64 R.xNet.xQuarrel.xVowed] : Array Value)[o]?) := ⟨XN.at.1, XU.at.1, XW.at.1, XR.at.1⟩
        refine wpAnyH_take (i := 0) (v := ?vn349) rfl (by kernel_rfl) (by kernel_rfl) (by kernel_rfl) (fun _ _ _ h => h) (Or.inl ⟨by rfl, ?hn349⟩) hS ?rn349
        case hn349 => intro w' hSw; go_simp; (try with_reducible rfl)
        (try simp only [List.getElem_toArray]); (try simp only [List.getElem_cons_succ]); (try simp only [List.getElem_cons_zero]); (try simp only [Act.put]); (try simp only [List.setIfInBounds_toArray]); (try simp only [List.set_cons_succ]); (try simp only [List.set_cons_zero])
        refine wpAnyH_take (i := 1) (v := ?vn350) rfl (by kernel_rfl) (by kernel_rfl) (by kernel_rfl) (fun _ _ _ h => h) (Or.inl ⟨by rfl, ?hn350⟩) hS ?rn350
        case hn350 => intro w' hSw; go_simp; (try with_reducible rfl)
        (try simp only [List.getElem_toArray]); (try simp only [List.getElem_cons_succ]); (try simp only [List.getElem_cons_zero]); (try simp only [Act.put]); (try simp only [List.setIfInBounds_toArray]); (try simp only [List.set_cons_succ]); (try simp only [List.set_cons_zero])
        refine wpAnyH_take (i := 2) (v := ?vn351) rfl (by kernel_rfl) (by kernel_rfl) (by kernel_rfl) (fun _ _ _ h => h) (Or.inl ⟨by rfl, ?hn351⟩) hS ?rn351
        case hn351 => intro w' hSw; go_simp; (try with_reducible rfl)
        (try simp only [List.getElem_toArray]); (try simp only [List.getElem_cons_succ]); (try simp only [List.getElem_cons_zero]); (try simp only [Act.put]); (try simp only [List.setIfInBounds_toArray]); (try simp only [List.set_cons_succ]); (try simp only [List.set_cons_zero])
        refine wpAnyH_take (i := 5) (v := ?vn352) rfl (by kernel_rfl) (by kernel_rfl) (by kernel_rfl) (fun _ _ _ h => h) (Or.inl ⟨by rfl, ?hn352⟩) hS ?rn352
        case hn352 => intro w' hSw; go_simp; (try with_reducible rfl)
        (try simp only [List.getElem_toArray]); (try simp only [List.getElem_cons_succ]); (try simp only [List.getElem_cons_zero]); (try simp only [Act.put]); (try simp only [List.setIfInBounds_toArray]); (try simp only [List.set_cons_succ]); (try simp only [List.set_cons_zero])
        refine wpAnyH_take (i := 6) (v := ?vn353) rfl (by kernel_rfl) (by kernel_rfl) (by kernel_rfl) (fun _ _ _ h => h) (Or.inl ⟨by rfl, ?hn353⟩) hS ?rn353
        case hn353 => intro w' hSw; go_simp; (try with_reducible rfl)
        (try simp only [List.getElem_toArray]); (try simp only [List.getElem_cons_succ]); (try simp only [List.getElem_cons_zero]); (try simp only [Act.put]); (try simp only [List.setIfInBounds_toArray]); (try simp only [List.set_cons_succ]); (try simp only [List.set_cons_zero])
        refine wpAnyH_ready (rs := [3]) (by kernel_rfl) (by simp) ?_
        refine AllReadyH.cons (o := _) rfl (fun K hK => ?_) AllReadyH.nil
        rw [if_pos (by rfl)]
        go_simp
        go_at_call 9
        clear hS
        refine (KXS _ rN rA rE).mono ?_
        rintro e w13 ⟨u9, bc0, bc1, bc2, bc3, rfl, ON9, -, -, -, -, k13⟩
        obtain ⟨s0, t0, s1, t1, s2, t2, s3, t3, rfl, -⟩ := ON9
        replace XN := XN.keep k13
        replace XU := XU.keep k13
        replace XW := XW.keep k13
        replace XR := XR.keep k13
        replace rN := rN.below k13
        replace rA := rA.below k13
        replace rE := rE.below k13
        replace rM := rM.below k13
        replace B := B.trans (k13.mono B.size)
        clear k13
        have hS : (∀ o, w13.cell? ⟨b12, o, none⟩ = (#[.slice p0 x.xTape.length c0, .slice p1 x.xUsed.length c1, .int .i64 x.xSent, .slice p2 x.xHeard.length c2, .int .i64 x.xCheat.xWho, .int .i64 x.xCheat.xAt, .int .i64 x.xCheat.xBy, .bool x.xCheat.xCry, .bool x.xQuarrel.xSome, .int .i64 x.xQuarrel.xFrom, .int .i64 x.xQuarrel.xCheck, .int .i64 x.xQuarrel.xTo, .int .i64 x.xQuarrel.xTold, .int .i64 x.xQuarrel.xHeard, .int .i64 x.xQuarrel.xOther, .int .i64 x.xQuarrel.xVowed] : Array Value)[o]?) ∧ (∀ o, w13.cell? ⟨b13, o, none⟩ = (#[.int .i64 A.xQ, .slice pa A.xViews.length ca] : Array Value)[o]?) ∧ (∀ o, w13.cell? ⟨b14, o, none⟩ = (#[.int .i64 E.xQ, .slice pb E.xViews.length cb] : Array Value)[o]?) ∧ (∀ o, w13.cell? ⟨b15, o, none⟩ = (#[.int .i64 R.xCode, .int .i64 R.xMirror.xQ, .slice q0 R.xMirror.xViews.length d0, .slice q1 R.xNet.xTape.length d1, .slice q2 R.xNet.xUsed.length d2, .int .i64 R.xNet.xSent, .slice q3 R.xNet.xHeard.length d3, .int .i64 R.xNet.xCheat.xWho, .int .i64 R.xNet.xCheat.xAt, .int .i64 R.xNet.xCheat.xBy, .bool R.xNet.xCheat.xCry, .bool R.xNet.xQuarrel.xSome, .int .i64 R.xNet.xQuarrel.xFrom, .int .i64 R.xNet.xQuarrel.xCheck, .int .i64 R.xNet.xQuarrel.xTo, .int .i64 R.xNet.xQuarrel.xTold, .int .i64 R.xNet.xQuarrel.xHeard, .int .i64 R.xNet.xQuarrel.xOther, .int .i64 R.xNet.xQuarrel.xVowed] : Array Value)[o]?) := ⟨XN.at.1, XU.at.1, XW.at.1, XR.at.1⟩
        refine hK.out _ _ hS (fun hS => ?_)
        clear hK K
        (try simp only [List.getElem_toArray]); (try simp only [List.getElem_cons_succ]); (try simp only [List.getElem_cons_zero]); (try simp only [Act.put]); (try simp only [List.setIfInBounds_toArray]); (try simp only [List.set_cons_succ]); (try simp only [List.set_cons_zero])
        refine wpAnyH_take (i := 4) (v := ?vn354) rfl (by kernel_rfl) (by kernel_rfl) (by kernel_rfl) (fun _ _ _ h => h) (Or.inl ⟨by rfl, ?hn354⟩) hS ?rn354
        case hn354 => intro w' hSw; go_simp; (try with_reducible rfl)
        (try simp only [List.getElem_toArray]); (try simp only [List.getElem_cons_succ]); (try simp only [List.getElem_cons_zero]); (try simp only [Act.put]); (try simp only [List.setIfInBounds_toArray]); (try simp only [List.set_cons_succ]); (try simp only [List.set_cons_zero])
        refine wpAnyH_take (i := 7) (v := ?vn355) rfl (by kernel_rfl) (by kernel_rfl) (by kernel_rfl) (fun _ _ _ h => h) (Or.inl ⟨by rfl, ?hn355⟩) hS ?rn355
        case hn355 => intro w' hSw; go_simp; (try with_reducible rfl)
        (try simp only [List.getElem_toArray]); (try simp only [List.getElem_cons_succ]); (try simp only [List.getElem_cons_zero]); (try simp only [Act.put]); (try simp only [List.setIfInBounds_toArray]); (try simp only [List.set_cons_succ]); (try simp only [List.set_cons_zero])
        refine wpAnyH_take (i := 8) (v := ?vn356) rfl (by kernel_rfl) (by kernel_rfl) (by kernel_rfl) (fun _ _ _ h => h) (Or.inl ⟨by rfl, ?hn356⟩) hS ?rn356
        case hn356 => intro w' hSw; go_simp; (try with_reducible rfl)
        (try simp only [List.getElem_toArray]); (try simp only [List.getElem_cons_succ]); (try simp only [List.getElem_cons_zero]); (try simp only [Act.put]); (try simp only [List.setIfInBounds_toArray]); (try simp only [List.set_cons_succ]); (try simp only [List.set_cons_zero])
        refine wpAnyH_done (by kernel_rfl) ?_ _
        clear hS
        go_wp2
        go_ret
        exact ⟨rfl, B⟩

/-! the row's step -/
set_option maxRecDepth 100000 in
theorem lifted (os : Os) (started : os.Started) (H : Type) (enc : TypeId × Value → H) :
    ReturnsInHanded {} Tryz.checked os 3 .any (Rows.fnXorsSpec.pre6 enc Tryz.prog Tryz.f3 Rows.fnXorsRow.domain false) (Rows.fnXorsSpec.post enc Tryz.prog Tryz.f3 false true false false) := by
  refine returnsInHanded_of_change (C := Tryz.checked) own started (by kernel_rfl) Tryz.func3
    (ChangeSpec.witness6 (enc := enc) (C := Tryz.checked) false ⟨#[], #[.slice none 0 0], []⟩ 8 (by kernel_rfl) (by kernel_rfl) (by kernel_rfl) (by kernel_rfl)) ?_
  intro W base args ds gs before hval0 hW hcnd _
  have hval : ∀ (j : Nat) t v, Tryz.f3.params[j]? = some t → args[j]? = some v → Value.okWide Tryz.prog W .any base t v := hval0
  have hW' := hW
  obtain ⟨p, q, hA0, hV, rfl, hfz, hnd⟩ := hW
  have hA : DataW.TrodAll enc Tryz.prog W 0 (fun _ => true) true Tryz.f3.params.toList args.toList ds p := hA0
  rw [Tryz.params3] at hA hval
  obtain ⟨v0, vs0, d0, ds0, p0, q0, hargs, rfl, rfl, h0, r0⟩ := trodAll_cons hA
  obtain ⟨rfl, rfl, rfl⟩ := trodAll_nil r0
  obtain rfl : args = #[v0] := by cases args; simp_all
  obtain ⟨rfl, rfl⟩ := trodVars_none hV
  obtain ⟨a0, len0, cap0, rfl⟩ := okWide_slice Tryz.underlying22 (hval 0 22 v0 rfl rfl)
  have k0 := h0
  have lt0 : ∀ x ∈ p0, x.block < W.heap.size := by obtain ⟨m, hm⟩ := k0; exact DataW.trod_lt m _ _ _ hm
  obtain ⟨z0, w0⟩ : ∃ zs, IsRow .u8 W a0 len0 cap0 zs := by
    obtain ⟨fuel, hf⟩ := h0
    rcases open_ints Tryz.underlying22 Tryz.underlying5 (by kernel_rfl) hf with ⟨hcs, _⟩ | ⟨x, l, c, zs, hcs, _, hl, hm, hz, _, hcell, hwz⟩
    · simp [Value.cells] at hcs
      obtain ⟨rfl, rfl, rfl⟩ := hcs
      exact ⟨[], .inl ⟨rfl, rfl, rfl, rfl⟩⟩
    · simp [Value.cells] at hcs
      obtain ⟨rfl, rfl, rfl⟩ := hcs
      exact ⟨zs, .inr ⟨_, rfl, hl, hm, by simpa using hz, hcell, hwz⟩⟩
  clear hA0 hval0
  refine (walk a0 len0 cap0 z0 W w0).mono fun e W' ⟨he, bel⟩ => ?_
  subst he
  exact ⟨_, rfl, _, _, _, [], _, [], hW', trodAll_mk1 (shut_bool Tryz.underlying4 _), (trodAll_cons_mk (Below.trod laidOut (by kernel_rfl) (of_decide_eq_true (by kernel_rfl)) k0 bel lt0) trodAll_mk0), rfl, bel.frame _, fun h => by cases h⟩

theorem over : Rows.fnXorsRow.holds Tryz.pinned (OpenSpec.ofChange Rows.fnXorsSpec) :=
  OpenClaim.holds_of_wide 3 Tryz.f3 rfl rfl rfl rfl rfl rfl rfl ⟨rfl, rfl, rfl, rfl, rfl⟩ rfl rfl rfl rfl rfl (by kernel_rfl) Tryz.func3 (by kernel_rfl)
    (of_decide_eq_true (by kernel_rfl)) (by unfold Func.isWrapper; first | (rw [if_pos (by decide +kernel)]; kernel_rfl) | (rw [if_neg (by decide +kernel)]; exact ⟨rfl, rfl⟩))
    (fun os started H enc _ => lifted os started H enc)

end Go.Proofs.YtepobckhfodngacGreat.fnXors
namespace Go.Proofs.YtepobckhfodngacGreat
theorem fnXors_holds : Rows.FnXorsSaid := fnXors.over
#print axioms fnXors_holds
end Go.Proofs.YtepobckhfodngacGreat
