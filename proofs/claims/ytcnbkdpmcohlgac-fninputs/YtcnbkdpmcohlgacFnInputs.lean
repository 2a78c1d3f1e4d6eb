/-
  FnInputs answers true whatever bytes it draws from: what is given is worth what was given, whatever one of those who hear it is told.
-/
import Derived.Test.YtcnbkdpmcohlgacDraw10
import Derived.Test.YtcnbkdpmcohlgacLawI
import Derived.Test.YtcnbkdpmcohlgacAgrS
import Derived.Test.YtcnbkdpmcohlgacMirT
import Derived.Test.YtcnbkdpmcohlgacLw
import Derived.Deep.RegionHeld3
import Derived.Deep.CutRange
import Derived.Deep.Cut
import Derived.Deep.RegionWith
import Derived.ShutString
import Derived.ChangeOld
import Derived.Below
namespace Go.Proofs.Ytcnbkdpmcohlgac.fnInputs
open Go.ChangeShapes Go.WideShapes Go.ChangeAt Go.RowKit
open Go.ChangeMaps (open_string shut_string)
set_option linter.unusedVariables false

theorem own : ownKnob Try.prog.godebug = none := by kernel_rfl
theorem laidOut : laidOutB Try.prog = true := by kernel_rfl

theorem fieldMR_0 (x0 x1 x2 x3 x4 x5 x6 x7 x8 x9 x10 x11 x12 x13 x14 x15 x16 x17 x18 : Value) (w : World) : (Instr.field 39 (.agg #[x0, x1, x2, x3, x4, x5, x6, x7, x8, x9, x10, x11, x12, x13, x14, x15, x16, x17, x18]) 0).run Try.prog w = .ok x0 w := by kernel_rfl
def RdI (w : World) (v : Value) (xs : List Int) : Prop := Reads w .i64 v xs
theorem RdI.below {w w' : World} {v : Value} {xs : List Int} (h : RdI w v xs) (hb : Below w.heap.size w w') : RdI w' v xs := Reads.below h hb
set_option maxHeartbeats 16000000 in
set_option maxRecDepth 100000 in
theorem walk (a0 : Option Addr) (len0 cap0 : Nat) (z0 : List Int) (w : World) (w0 : IsRow .u8 w a0 len0 cap0 z0) :
    Calls Try.prog 3 #[.slice a0 len0 cap0] w fun e w' => e = .returned (.bool true) ∧ Below w.heap.size w w' := by
  obtain ⟨zs, rfl, hr, hw⟩ := w0.reads
  clear w0
  have hby := bytes_of hw
  clear hw
  by_cases hl : 1048576 < zs.length
  · go_enter Try.func3, Try.ntmps3
    go_wp2_with fail
    refine (lwBig_yes _ _ _ _ hl).mono ?_
    rintro e w' ⟨rfl, rfl⟩
    go_wp2
    go_ret
    exact ⟨rfl, Below.refl _ _⟩
  · have hl' : zs.length ≤ 1048576 := by omega
    have HR0 : Hid (Reads w .u8 (.slice a0 zs.length cap0) zs) := hr
    clear hr
    have fm0 := fieldMR_0
    have fi0 := field_0
    have fi1 := field_1
    go_enter Try.func3, Try.ntmps3
    go_wp2_with fail
    refine (lwBig_no _ _ _ _ hl').mono ?_
    rintro e w' ⟨rfl, rfl⟩
    go_wp2_with fail
    refine (spec_DrawInputMirror a0 cap0 zs w HR0.out hl' hby).mono ?_
    rintro e w1 ⟨p0, c0, p1, c1, p2, c2, x, oo, v, rfl, rN, hF, B⟩
    have HF : Hid (Fit x) := hF
    clear hF
    have HT : Hid ((inputR x oo v).xCode = 0 → _) := inputs (x := x) (o := oo) (v := v)
    have KR := fun W h => impl_InputMirror (.agg #[.slice p0 x.xTape.length c0, .slice p1 x.xUsed.length c1, .int .i64 x.xSent, .slice p2 x.xHeard.length c2, .int .i64 x.xCheat.xWho, .int .i64 x.xCheat.xAt, .int .i64 x.xCheat.xBy, .bool x.xCheat.xCry, .bool x.xQuarrel.xSome, .int .i64 x.xQuarrel.xFrom, .int .i64 x.xQuarrel.xCheck, .int .i64 x.xQuarrel.xTo, .int .i64 x.xQuarrel.xTold, .int .i64 x.xQuarrel.xHeard, .int .i64 x.xQuarrel.xOther, .int .i64 x.xQuarrel.xVowed]) x oo v W h HF.out
    have KRS := fun W h => spec_InputMirror (.agg #[.slice p0 x.xTape.length c0, .slice p1 x.xUsed.length c1, .int .i64 x.xSent, .slice p2 x.xHeard.length c2, .int .i64 x.xCheat.xWho, .int .i64 x.xCheat.xAt, .int .i64 x.xCheat.xBy, .bool x.xCheat.xCry, .bool x.xQuarrel.xSome, .int .i64 x.xQuarrel.xFrom, .int .i64 x.xQuarrel.xCheck, .int .i64 x.xQuarrel.xTo, .int .i64 x.xQuarrel.xTold, .int .i64 x.xQuarrel.xHeard, .int .i64 x.xQuarrel.xOther, .int .i64 x.xQuarrel.xVowed]) x oo v W h HF.out
    generalize hRR : inputR x oo v = R at *
    clear hRR
    have Zn := Blk.new w1 33 #[.slice none 0 0, .slice none 0 0, .int .i64 0, .slice none 0 0, .int .i64 0, .int .i64 0, .int .i64 0, .bool false, .bool false, .int .i64 0, .int .i64 0, .int .i64 0, .int .i64 0, .int .i64 0, .int .i64 0, .int .i64 0]
    go_wp2_with (first | (refine wpList_store_blk rfl 33 _ _ rfl w1.heap.size (#[.slice p0 x.xTape.length c0, .slice p1 x.xUsed.length c1, .int .i64 x.xSent, .slice p2 x.xHeard.length c2, .int .i64 x.xCheat.xWho, .int .i64 x.xCheat.xAt, .int .i64 x.xCheat.xBy, .bool x.xCheat.xCry, .bool x.xQuarrel.xSome, .int .i64 x.xQuarrel.xFrom, .int .i64 x.xQuarrel.xCheck, .int .i64 x.xQuarrel.xTo, .int .i64 x.xQuarrel.xTold, .int .i64 x.xQuarrel.xHeard, .int .i64 x.xQuarrel.xOther, .int .i64 x.xQuarrel.xVowed]) rfl rfl Zn rfl (by kernel_rfl) (by kernel_rfl) ?_; intro wx XN O2; have lg := Zn) | (refine wpList_load_blk rfl 33 _ rfl w1.heap.size rfl XN Try.underlying33 rfl (by kernel_rfl) ?_))
    have B2 : Below w.heap.size w wx := (B.alloc B.size _).trans (O2.toBelow (B.alloc B.size _).size (by have := B.size; simp; omega))
    have rN2 := rN.below (((Below.refl w1.heap.size w1).alloc (Nat.le_refl _) _).trans (O2.toBelow (by simp) (by simp)))
    clear rN B O2 Zn
    have rN := rN2
    have B := B2
    clear rN2 B2
    generalize w1.heap.size = b3 at *
    refine Calls.at (F := fun V => Blk V b3 33 #[.slice p0 x.xTape.length c0, .slice p1 x.xUsed.length c1, .int .i64 x.xSent, .slice p2 x.xHeard.length c2, .int .i64 x.xCheat.xWho, .int .i64 x.xCheat.xAt, .int .i64 x.xCheat.xBy, .bool x.xCheat.xCry, .bool x.xQuarrel.xSome, .int .i64 x.xQuarrel.xFrom, .int .i64 x.xQuarrel.xCheck, .int .i64 x.xQuarrel.xTo, .int .i64 x.xQuarrel.xTold, .int .i64 x.xQuarrel.xHeard, .int .i64 x.xQuarrel.xOther, .int .i64 x.xQuarrel.xVowed] ∧ RdNet V (.agg #[.slice p0 x.xTape.length c0, .slice p1 x.xUsed.length c1, .int .i64 x.xSent, .slice p2 x.xHeard.length c2, .int .i64 x.xCheat.xWho, .int .i64 x.xCheat.xAt, .int .i64 x.xCheat.xBy, .bool x.xCheat.xCry, .bool x.xQuarrel.xSome, .int .i64 x.xQuarrel.xFrom, .int .i64 x.xQuarrel.xCheck, .int .i64 x.xQuarrel.xTo, .int .i64 x.xQuarrel.xTold, .int .i64 x.xQuarrel.xHeard, .int .i64 x.xQuarrel.xOther, .int .i64 x.xQuarrel.xVowed]) x ∧ Below w.heap.size w V) ⟨XN, rN, B⟩ ?_
    clear XN rN B
    rintro V1 ⟨XN, rN, B⟩
    refine (KR _ rN).mono ?_
    rintro e w2 ⟨u6, bb0, bb1, bb2, bb3, rfl, ON, -, -, -, -, k2⟩
    obtain ⟨q0, d0, q1, d1, q2, d2, q3, d3, rfl, m0, m1, m2, m3, -⟩ := ON
    have rM : RdMirror w2 (.agg #[.int .i64 R.xMirror.xQ, .slice q0 R.xMirror.xViews.length d0]) R.xMirror := ⟨q0, d0, rfl, m0.reads⟩
    clear m0 m1 m2 m3 KR
    replace XN := XN.keep k2
    replace rN := rN.below k2
    replace B := B.trans (k2.mono B.size)
    clear k2
    have Zr := Blk.new w2 39 #[.int .i64 0, .int .i64 0, .slice none 0 0, .slice none 0 0, .slice none 0 0, .int .i64 0, .slice none 0 0, .int .i64 0, .int .i64 0, .int .i64 0, .bool false, .bool false, .int .i64 0, .int .i64 0, .int .i64 0, .int .i64 0, .int .i64 0, .int .i64 0, .int .i64 0]
    go_wp2_with (refine wpList_store_blk rfl 39 _ _ rfl w2.heap.size (#[.int .i64 R.xCode, .int .i64 R.xMirror.xQ, .slice q0 R.xMirror.xViews.length d0, .slice q1 R.xNet.xTape.length d1, .slice q2 R.xNet.xUsed.length d2, .int .i64 R.xNet.xSent, .slice q3 R.xNet.xHeard.length d3, .int .i64 R.xNet.xCheat.xWho, .int .i64 R.xNet.xCheat.xAt, .int .i64 R.xNet.xCheat.xBy, .bool R.xNet.xCheat.xCry, .bool R.xNet.xQuarrel.xSome, .int .i64 R.xNet.xQuarrel.xFrom, .int .i64 R.xNet.xQuarrel.xCheck, .int .i64 R.xNet.xQuarrel.xTo, .int .i64 R.xNet.xQuarrel.xTold, .int .i64 R.xNet.xQuarrel.xHeard, .int .i64 R.xNet.xQuarrel.xOther, .int .i64 R.xNet.xQuarrel.xVowed]) rfl rfl Zr rfl (by kernel_rfl) (by kernel_rfl) ?_; intro wy XR O6)
    have K6 : Below w2.heap.size w2 wy := ((Below.refl _ _).alloc (Nat.le_refl _) _).trans (O6.toBelow (by simp) (by simp))
    replace XN := XN.keep K6
    replace rN := rN.below K6
    replace rM := rM.below K6
    replace B := B.trans (K6.mono B.size)
    clear K6 O6 Zr
    generalize w2.heap.size = b6 at *
    refine Calls.at (F := fun V => Blk V b3 33 #[.slice p0 x.xTape.length c0, .slice p1 x.xUsed.length c1, .int .i64 x.xSent, .slice p2 x.xHeard.length c2, .int .i64 x.xCheat.xWho, .int .i64 x.xCheat.xAt, .int .i64 x.xCheat.xBy, .bool x.xCheat.xCry, .bool x.xQuarrel.xSome, .int .i64 x.xQuarrel.xFrom, .int .i64 x.xQuarrel.xCheck, .int .i64 x.xQuarrel.xTo, .int .i64 x.xQuarrel.xTold, .int .i64 x.xQuarrel.xHeard, .int .i64 x.xQuarrel.xOther, .int .i64 x.xQuarrel.xVowed] ∧ Blk V b6 39 #[.int .i64 R.xCode, .int .i64 R.xMirror.xQ, .slice q0 R.xMirror.xViews.length d0, .slice q1 R.xNet.xTape.length d1, .slice q2 R.xNet.xUsed.length d2, .int .i64 R.xNet.xSent, .slice q3 R.xNet.xHeard.length d3, .int .i64 R.xNet.xCheat.xWho, .int .i64 R.xNet.xCheat.xAt, .int .i64 R.xNet.xCheat.xBy, .bool R.xNet.xCheat.xCry, .bool R.xNet.xQuarrel.xSome, .int .i64 R.xNet.xQuarrel.xFrom, .int .i64 R.xNet.xQuarrel.xCheck, .int .i64 R.xNet.xQuarrel.xTo, .int .i64 R.xNet.xQuarrel.xTold, .int .i64 R.xNet.xQuarrel.xHeard, .int .i64 R.xNet.xQuarrel.xOther, .int .i64 R.xNet.xQuarrel.xVowed] ∧ RdNet V (.agg #[.slice p0 x.xTape.length c0, .slice p1 x.xUsed.length c1, .int .i64 x.xSent, .slice p2 x.xHeard.length c2, .int .i64 x.xCheat.xWho, .int .i64 x.xCheat.xAt, .int .i64 x.xCheat.xBy, .bool x.xCheat.xCry, .bool x.xQuarrel.xSome, .int .i64 x.xQuarrel.xFrom, .int .i64 x.xQuarrel.xCheck, .int .i64 x.xQuarrel.xTo, .int .i64 x.xQuarrel.xTold, .int .i64 x.xQuarrel.xHeard, .int .i64 x.xQuarrel.xOther, .int .i64 x.xQuarrel.xVowed]) x ∧ RdMirror V (.agg #[.int .i64 R.xMirror.xQ, .slice q0 R.xMirror.xViews.length d0]) R.xMirror ∧ Below w.heap.size w V) ⟨XN, XR, rN, rM, B⟩ ?_
    clear XN XR rN rM B
    rintro V3 ⟨XN, XR, rN, rM, B⟩
    refine (spec_DrawAgreeInput a0 cap0 zs _ (HR0.out.below B) hl' hby).mono ?_
    rintro e w4 ⟨ph, ch, hs, rfl, rh, k4⟩
    have rH : RdI w4 (.slice ph hs.length ch) hs := rh
    clear rh
    replace XN := XN.keep k4
    replace XR := XR.keep k4
    replace rN := rN.below k4
    replace rM := rM.below k4
    replace B := B.trans (k4.mono B.size)
    clear k4
    have KA := fun W h => impl_AgreeInput (.slice ph hs.length ch) hs W h
    have KAS := fun W h => spec_AgreeInput (.slice ph hs.length ch) hs W h
    generalize agreeR hs = AR at *
    go_wp2_with fail
    refine (KA _ rH).mono ?_
    rintro e w5 ⟨rfl, k5⟩
    clear KA
    replace XN := XN.keep k5
    replace XR := XR.keep k5
    replace rN := rN.below k5
    replace rM := rM.below k5
    replace rH := rH.below k5
    replace B := B.trans (k5.mono B.size)
    clear k5
    go_wp2_with fail
    have X8 := Blk.new w5 43 #[.int .i64 AR.1, .int .i64 AR.2]
    replace XN := XN.alloc (.cells #[.int .i64 AR.1, .int .i64 AR.2] 43)
    replace XR := XR.alloc (.cells #[.int .i64 AR.1, .int .i64 AR.2] 43)
    replace rN := rN.below ((Below.refl _ _).alloc (Nat.le_refl _) (.cells #[.int .i64 AR.1, .int .i64 AR.2] 43))
    replace rM := rM.below ((Below.refl _ _).alloc (Nat.le_refl _) (.cells #[.int .i64 AR.1, .int .i64 AR.2] 43))
    replace rH := rH.below ((Below.refl _ _).alloc (Nat.le_refl _) (.cells #[.int .i64 AR.1, .int .i64 AR.2] 43))
    replace B := B.alloc B.size (.cells #[.int .i64 AR.1, .int .i64 AR.2] 43)
    generalize w5.heap.size = b8 at *
    generalize w5.alloc (.cells #[.int .i64 AR.1, .int .i64 AR.2] 43) = wq at *
    have ep1 : (AR.1 != AR.1) = false := by simp
    have ep2 : (AR.2 != AR.2) = false := by simp
    refine wp_region_held (S := fun V => (∀ o, V.cell? ⟨b8, o, none⟩ = (#[.int .i64 AR.1, .int .i64 AR.2] : Array Value)[o]?)) (by kernel_rfl) ?_
    try (change wpAnyH _ _ _ _ _ _ _ _ (World.drew _))
    replace XN := XN.drew
    replace XR := XR.drew
    replace X8 := X8.drew
    replace rN := rN.below (Below.refl _ _).drew
    replace rM := rM.below (Below.refl _ _).drew
    replace rH := rH.below (Below.refl _ _).drew
    replace B := B.drew
    have hS : (∀ o, wq.drew.cell? ⟨b8, o, none⟩ = (#[.int .i64 AR.1, .int .i64 AR.2] : Array Value)[o]?) := X8.at.1
    refine wpAnyH_take (i := 0) (v := ?vn222) rfl (by kernel_rfl) (by kernel_rfl) (by kernel_rfl) (fun _ _ _ h => h) (Or.inl ⟨by rfl, ?hn222⟩) hS ?rn222
    case hn222 => intro w' hSw; go_simp; (try with_reducible rfl)
    (try simp only [List.getElem_toArray]); (try simp only [List.getElem_cons_succ]); (try simp only [List.getElem_cons_zero]); (try simp only [Act.put]); (try simp only [List.setIfInBounds_toArray]); (try simp only [List.set_cons_succ]); (try simp only [List.set_cons_zero])
    refine wpAnyH_take (i := 1) (v := ?vn223) rfl (by kernel_rfl) (by kernel_rfl) (by kernel_rfl) (fun _ _ _ h => h) (Or.inl ⟨by rfl, ?hn223⟩) hS ?rn223
    case hn223 => intro w' hSw; go_simp; (try with_reducible rfl)
    (try simp only [List.getElem_toArray]); (try simp only [List.getElem_cons_succ]); (try simp only [List.getElem_cons_zero]); (try simp only [Act.put]); (try simp only [List.setIfInBounds_toArray]); (try simp only [List.set_cons_succ]); (try simp only [List.set_cons_zero])
    refine wpAnyH_take (i := 2) (v := ?vn224) rfl (by kernel_rfl) (by kernel_rfl) (by kernel_rfl) (fun _ _ _ h => h) (Or.inl ⟨by rfl, ?hn224⟩) hS ?rn224
    case hn224 => intro w' hSw; go_simp; (try with_reducible rfl)
    (try simp only [List.getElem_toArray]); (try simp only [List.getElem_cons_succ]); (try simp only [List.getElem_cons_zero]); (try simp only [Act.put]); (try simp only [List.setIfInBounds_toArray]); (try simp only [List.set_cons_succ]); (try simp only [List.set_cons_zero])
    refine wpAnyH_ready (rs := [3]) (by kernel_rfl) (by simp) ?_
    refine AllReadyH.cons (o := _) rfl (fun K hK => ?_) AllReadyH.nil
    rw [if_pos (by rfl)]
    go_simp
    go_at_call 11
    clear hS
    refine (KAS _ rH).mono ?_
    rintro e w6 ⟨rfl, k6⟩
    replace XN := XN.keep k6
    replace XR := XR.keep k6
    replace X8 := X8.keep k6
    replace rN := rN.below k6
    replace rM := rM.below k6
    replace rH := rH.below k6
    replace B := B.trans (k6.mono B.size)
    clear k6
    have hS : (∀ o, w6.cell? ⟨b8, o, none⟩ = (#[.int .i64 AR.1, .int .i64 AR.2] : Array Value)[o]?) := X8.at.1
    refine hK.out _ _ hS (fun hS => ?_)
    clear hK K
    (try simp only [List.getElem_toArray]); (try simp only [List.getElem_cons_succ]); (try simp only [List.getElem_cons_zero]); (try simp only [Act.put]); (try simp only [List.setIfInBounds_toArray]); (try simp only [List.set_cons_succ]); (try simp only [List.set_cons_zero])
    refine wpAnyH_take (i := 4) (v := ?vn225) rfl (by kernel_rfl) (by kernel_rfl) (by kernel_rfl) (fun _ _ _ h => h) (Or.inl ⟨by rfl, ?hn225⟩) hS ?rn225
    case hn225 => intro w' hSw; go_simp; (try with_reducible rfl)
    (try simp only [List.getElem_toArray]); (try simp only [List.getElem_cons_succ]); (try simp only [List.getElem_cons_zero]); (try simp only [Act.put]); (try simp only [List.setIfInBounds_toArray]); (try simp only [List.set_cons_succ]); (try simp only [List.set_cons_zero])
    refine wpAnyH_take (i := 5) (v := ?vn226) rfl (by kernel_rfl) (by kernel_rfl) (by kernel_rfl) (fun _ _ _ h => h) (Or.inl ⟨by rfl, ?hn226⟩) hS ?rn226
    case hn226 => intro w' hSw; go_simp; (try with_reducible rfl)
    (try simp only [List.getElem_toArray]); (try simp only [List.getElem_cons_succ]); (try simp only [List.getElem_cons_zero]); (try simp only [Act.put]); (try simp only [List.setIfInBounds_toArray]); (try simp only [List.set_cons_succ]); (try simp only [List.set_cons_zero])
    refine wpAnyH_take (i := 6) (v := ?vn227) rfl (by kernel_rfl) (by kernel_rfl) (by kernel_rfl) (fun _ _ _ h => h) (Or.inl ⟨by rfl, ?hn227⟩) hS ?rn227
    case hn227 => intro w' hSw; go_simp; (try with_reducible rfl)
    (try simp only [List.getElem_toArray]); (try simp only [List.getElem_cons_succ]); (try simp only [List.getElem_cons_zero]); (try simp only [Act.put]); (try simp only [List.setIfInBounds_toArray]); (try simp only [List.set_cons_succ]); (try simp only [List.set_cons_zero])
    refine wpAnyH_take (i := 7) (v := ?vn228) rfl (by kernel_rfl) (by kernel_rfl) (by kernel_rfl) (fun _ _ _ h => h) (Or.inl ⟨by rfl, ?hn228⟩) hS ?rn228
    case hn228 => intro w' hSw; go_simp; (try with_reducible rfl)
    (try simp only [List.getElem_toArray]); (try simp only [List.getElem_cons_succ]); (try simp only [List.getElem_cons_zero]); (try simp only [Act.put]); (try simp only [List.setIfInBounds_toArray]); (try simp only [List.set_cons_succ]); (try simp only [List.set_cons_zero])
    refine wpAnyH_take (i := 8) (v := ?vn229) rfl (by kernel_rfl) (by kernel_rfl) (by kernel_rfl) (fun _ _ _ h => h) (Or.inl ⟨by rfl, ?hn229⟩) hS ?rn229
    case hn229 => intro w' hSw; go_simp; (try with_reducible rfl)
    (try simp only [List.getElem_toArray]); (try simp only [List.getElem_cons_succ]); (try simp only [List.getElem_cons_zero]); (try simp only [Act.put]); (try simp only [List.setIfInBounds_toArray]); (try simp only [List.set_cons_succ]); (try simp only [List.set_cons_zero])
    refine wpAnyH_take (i := 9) (v := ?vn230) rfl (by kernel_rfl) (by kernel_rfl) (by kernel_rfl) (fun _ _ _ h => h) (Or.inl ⟨by rfl, ?hn230⟩) hS ?rn230
    case hn230 => intro w' hSw; go_simp; (try with_reducible rfl)
    (try simp only [List.getElem_toArray]); (try simp only [List.getElem_cons_succ]); (try simp only [List.getElem_cons_zero]); (try simp only [Act.put]); (try simp only [List.setIfInBounds_toArray]); (try simp only [List.set_cons_succ]); (try simp only [List.set_cons_zero])
    refine wpAnyH_ready (rs := [10]) (by kernel_rfl) (by simp) ?_
    refine AllReadyH.cons (o := _) rfl (fun K hK => ?_) AllReadyH.nil
    rw [if_pos (by rfl)]
    go_simp
    go_at_call 11
    clear hS
    refine (KAS _ rH).mono ?_
    rintro e w7 ⟨rfl, k7⟩
    replace XN := XN.keep k7
    replace XR := XR.keep k7
    replace X8 := X8.keep k7
    replace rN := rN.below k7
    replace rM := rM.below k7
    replace rH := rH.below k7
    replace B := B.trans (k7.mono B.size)
    clear k7
    have hS : (∀ o, w7.cell? ⟨b8, o, none⟩ = (#[.int .i64 AR.1, .int .i64 AR.2] : Array Value)[o]?) := X8.at.1
    refine hK.out _ _ hS (fun hS => ?_)
    clear hK K
    (try simp only [List.getElem_toArray]); (try simp only [List.getElem_cons_succ]); (try simp only [List.getElem_cons_zero]); (try simp only [Act.put]); (try simp only [List.setIfInBounds_toArray]); (try simp only [List.set_cons_succ]); (try simp only [List.set_cons_zero])
    refine wpAnyH_take (i := 11) (v := ?vn231) rfl (by kernel_rfl) (by kernel_rfl) (by kernel_rfl) (fun _ _ _ h => h) (Or.inl ⟨by rfl, ?hn231⟩) hS ?rn231
    case hn231 => intro w' hSw; go_simp; (try with_reducible rfl)
    (try simp only [List.getElem_toArray]); (try simp only [List.getElem_cons_succ]); (try simp only [List.getElem_cons_zero]); (try simp only [Act.put]); (try simp only [List.setIfInBounds_toArray]); (try simp only [List.set_cons_succ]); (try simp only [List.set_cons_zero])
    refine wpAnyH_take (i := 12) (v := ?vn232) rfl (by kernel_rfl) (by kernel_rfl) (by kernel_rfl) (fun _ _ _ h => h) (Or.inl ⟨by rfl, ?hn232⟩) hS ?rn232
    case hn232 => intro w' hSw; go_simp; (try with_reducible rfl)
    (try simp only [List.getElem_toArray]); (try simp only [List.getElem_cons_succ]); (try simp only [List.getElem_cons_zero]); (try simp only [Act.put]); (try simp only [List.setIfInBounds_toArray]); (try simp only [List.set_cons_succ]); (try simp only [List.set_cons_zero])
    refine wpAnyH_take (i := 13) (v := ?vn233) rfl (by kernel_rfl) (by kernel_rfl) (by kernel_rfl) (fun _ _ _ h => h) (Or.inl ⟨by rfl, ?hn233⟩) hS ?rn233
    case hn233 => intro w' hSw; go_simp; (try with_reducible rfl)
    (try simp only [List.getElem_toArray]); (try simp only [List.getElem_cons_succ]); (try simp only [List.getElem_cons_zero]); (try simp only [Act.put]); (try simp only [List.setIfInBounds_toArray]); (try simp only [List.set_cons_succ]); (try simp only [List.set_cons_zero])
    refine wpAnyH_done (by kernel_rfl) ?_ _
    clear hS
    clear KAS X8 rH ep1 ep2
    by_cases hf : R.xCode = 0
    · as_aux_lemma =>
        obtain ⟨hQ, hSe, hSo, hbd, hval⟩ := HT.out hf
        have KV := fun but (hb : isBut but = true) W h => impl_ValueOf (.agg #[.int .i64 R.xMirror.xQ, .slice q0 R.xMirror.xViews.length d0]) R.xMirror but W h
        have KV2 : ∀ but, isBut but = true → ∀ W, RdMirror W (.agg #[.int .i64 R.xMirror.xQ, .slice q0 R.xMirror.xViews.length d0]) R.xMirror → Calls Try.prog 13 #[.agg #[.int .i64 R.xMirror.xQ, .slice q0 R.xMirror.xViews.length d0], .int .i64 but] W fun e w' => e = .returned (.agg #[.int .i64 0, .int .i64 v]) ∧ Below W.heap.size W w' := fun but hb W h => by
          refine (KV but hb W h).mono ?_
          rintro e w' ⟨u, rfl, hu, k⟩
          rw [hval but hb] at hu
          unfold RdIntResult at hu
          subst hu
          exact ⟨rfl, k⟩
        clear KV hval HT KRS
        have ef : (R.xCode != 0) = false := by simpa using hf
        have eQ : (R.xMirror.xQ == 256) = true := by simpa using hQ
        have eS : (R.xNet.xSent == x.xSent + 3) = true := by simpa using hSe
        have ew : IntKind.i64.wrap (x.xSent + 3) = x.xSent + 3 := by rw [IntKind.wrap_i64]; omega
        have HSO : Hid (R.xNet.xQuarrel.xSome = false) := hSo
        have ev : (v != v) = false := by simp
        have e00 : ((0 : Int) != 0) = false := by simp
        clear hf hQ hSe hSo hbd
        have XRa := XR.at.1
        have XRl := XR.lt
        go_wp2_with fail
        clear XRa XRl
        go_loopw [9] (fun i wr => ∃ k : Int, -1 ≤ k ∧ k ≤ 4 ∧ i = .int .i64 k ∧ Blk wr b3 33 #[.slice p0 x.xTape.length c0, .slice p1 x.xUsed.length c1, .int .i64 x.xSent, .slice p2 x.xHeard.length c2, .int .i64 x.xCheat.xWho, .int .i64 x.xCheat.xAt, .int .i64 x.xCheat.xBy, .bool x.xCheat.xCry, .bool x.xQuarrel.xSome, .int .i64 x.xQuarrel.xFrom, .int .i64 x.xQuarrel.xCheck, .int .i64 x.xQuarrel.xTo, .int .i64 x.xQuarrel.xTold, .int .i64 x.xQuarrel.xHeard, .int .i64 x.xQuarrel.xOther, .int .i64 x.xQuarrel.xVowed] ∧ Blk wr b6 39 #[.int .i64 R.xCode, .int .i64 R.xMirror.xQ, .slice q0 R.xMirror.xViews.length d0, .slice q1 R.xNet.xTape.length d1, .slice q2 R.xNet.xUsed.length d2, .int .i64 R.xNet.xSent, .slice q3 R.xNet.xHeard.length d3, .int .i64 R.xNet.xCheat.xWho, .int .i64 R.xNet.xCheat.xAt, .int .i64 R.xNet.xCheat.xBy, .bool R.xNet.xCheat.xCry, .bool R.xNet.xQuarrel.xSome, .int .i64 R.xNet.xQuarrel.xFrom, .int .i64 R.xNet.xQuarrel.xCheck, .int .i64 R.xNet.xQuarrel.xTo, .int .i64 R.xNet.xQuarrel.xTold, .int .i64 R.xNet.xQuarrel.xHeard, .int .i64 R.xNet.xQuarrel.xOther, .int .i64 R.xNet.xQuarrel.xVowed] ∧ RdNet wr (.agg #[.slice p0 x.xTape.length c0, .slice p1 x.xUsed.length c1, .int .i64 x.xSent, .slice p2 x.xHeard.length c2, .int .i64 x.xCheat.xWho, .int .i64 x.xCheat.xAt, .int .i64 x.xCheat.xBy, .bool x.xCheat.xCry, .bool x.xQuarrel.xSome, .int .i64 x.xQuarrel.xFrom, .int .i64 x.xQuarrel.xCheck, .int .i64 x.xQuarrel.xTo, .int .i64 x.xQuarrel.xTold, .int .i64 x.xQuarrel.xHeard, .int .i64 x.xQuarrel.xOther, .int .i64 x.xQuarrel.xVowed]) x ∧ RdMirror wr (.agg #[.int .i64 R.xMirror.xQ, .slice q0 R.xMirror.xViews.length d0]) R.xMirror ∧ Below w.heap.size w wr) (fun i _ => (4 - intOf i).toNat)
        case atStart => exact ⟨-1, by omega, by omega, rfl, XN, XR, rN, rM, B⟩
        case round =>
          clear XN XR rN rM B
          obtain ⟨k, hk, hk4, rfl, XN, XR, rN, rM, B⟩ := hrel
          by_cases hlt : k < 4
          · have hbk : isBut k = true := decide_eq_true (by omega)
            have XRa := XR.at.1
            have XRl := XR.lt
            go_wp2_with fail
            clear XRa XRl
            refine (KV2 k hbk _ rM).mono ?_
            rintro e w8 ⟨rfl, k8⟩
            replace XN := XN.keep k8
            replace XR := XR.keep k8
            replace rN := rN.below k8
            replace rM := rM.below k8
            replace B := B.trans (k8.mono B.size)
            clear k8
            have XRa := XR.at.1
            have XRl := XR.lt
            go_wp2_with fail
            clear XRa XRl
            refine (KV2 k hbk _ rM).mono ?_
            rintro e w9 ⟨rfl, k9⟩
            replace XN := XN.keep k9
            replace XR := XR.keep k9
            replace rN := rN.below k9
            replace rM := rM.below k9
            replace B := B.trans (k9.mono B.size)
            clear k9
            go_wp2
            go_roundw
            case rel => exact ⟨k + 1, by omega, by omega, by go_num, XN, XR, rN, rM, B⟩
            case measure => simp [intOf]; omega
          · have hi : decide (k < 4) = false := by simp; omega
            have XRa := XR.at.1
            have XRl := XR.lt
            have XNa := XN.at.1
            have XNl := XN.lt
            simp only [HSO.out] at XRa
            go_wp2
            go_ret
            exact ⟨rfl, B⟩
    · as_aux_lemma =>
        have ef : (R.xCode != 0) = true := by simpa using hf
        have eq : (R.xCode == R.xCode) = true := by simp
        clear hf HT
        have XRa := XR.at.1
        have XRl := XR.lt
        go_wp2_with fail
        clear XRa XRl
        refine wp_region_held (S := fun V => (∀ o, V.cell? ⟨b3, o, none⟩ = (#[.slice p0 x.xTape.length c0, .slice p1 x.xUsed.length c1, .int .i64 x.xSent, .slice p2 x.xHeard.length c2, .int .i64 x.xCheat.xWho, .int .i64 x.xCheat.xAt, .int .i64 x.xCheat.xBy, .bool x.xCheat.xCry, .bool x.xQuarrel.xSome, .int .i64 x.xQuarrel.xFrom, .int .i64 x.xQuarrel.xCheck, .int .i64 x.xQuarrel.xTo, .int .i64 x.xQuarrel.xTold, .int .i64 x.xQuarrel.xHeard, .int .i64 x.xQuarrel.xOther, .int .i64 x.xQuarrel.xVowed] : Array Value)[o]?) ∧ (∀ o, V.cell? ⟨b6, o, none⟩ = (#[.int .i64 R.xCode, .int .i64 R.xMirror.xQ, .slice q0 R.xMirror.xViews.length d0, .slice q1 R.xNet.xTape.length d1, .slice q2 R.xNet.xUsed.length d2, .int .i64 R.xNet.xSent, .slice q3 R.xNet.xHeard.length d3, .int .i64 R.xNet.xCheat.xWho, .int .i64 R.xNet.xCheat.xAt, .int .i64 R.xNet.xCheat.xBy, .bool R.xNet.xCheat.xCry, .bool R.xNet.xQuarrel.xSome, .int .i64 R.xNet.xQuarrel.xFrom, .int .i64 R.xNet.xQuarrel.xCheck, .int .i64 R.xNet.xQuarrel.xTo, .int .i64 R.xNet.xQuarrel.xTold, .int .i64 R.xNet.xQuarrel.xHeard, .int .i64 R.xNet.xQuarrel.xOther, .int .i64 R.xNet.xQuarrel.xVowed] : Array Value)[o]?)) (by kernel_rfl) ?_
        try (change wpAnyH _ _ _ _ _ _ _ _ (World.drew _))
        replace XN := XN.drew
        replace XR := XR.drew
        replace rN := rN.below (Below.refl _ _).drew
        replace rM := rM.below (Below.refl _ _).drew
        replace B := B.drew
        have hS : (∀ o, w7.drew.cell? ⟨b3, o, none⟩ = (#[.slice p0 x.xTape.length c0, .slice p1 x.xUsed.length c1, .int .i64 x.xSent, .slice p2 x.xHeard.length c2, .int .i64 x.xCheat.xWho, .int .i64 x.xCheat.xAt, .int .i64 x.xCheat.xBy, .bool x.xCheat.xCry, .bool x.xQuarrel.xSome, .int .i64 x.xQuarrel.xFrom, .int .i64 x.xQuarrel.xCheck, .int .i64 x.xQuarrel.xTo, .int .i64 x.xQuarrel.xTold, .int .i64 x.xQuarrel.xHeard, .int .i64 x.xQuarrel.xOther, .int .i64 x.xQuarrel.xVowed] : Array Value)[o]?) ∧ (∀ o, w7.drew.cell? ⟨b6, o, none⟩ = (#[.int .i64 R.xCode, .int .i64 R.xMirror.xQ, .slice q0 R.xMirror.xViews.length d0, .slice q1 R.xNet.xTape.length d1, .slice q2 R.xNet.xUsed.length d2, .int .i64 R.xNet.xSent, .slice q3 R.xNet.xHeard.length d3, .int .i64 R.xNet.xCheat.xWho, .int .i64 R.xNet.xCheat.xAt, .int .i64 R.xNet.xCheat.xBy, .bool R.xNet.xCheat.xCry, .bool R.xNet.xQuarrel.xSome, .int .i64 R.xNet.xQuarrel.xFrom, .int .i64 R.xNet.xQuarrel.xCheck, .int .i64 R.xNet.xQuarrel.xTo, .int .i64 R.xNet.xQuarrel.xTold, .int .i64 R.xNet.xQuarrel.xHeard, .int .i64 R.xNet.xQuarrel.xOther, .int .i64 R.xNet.xQuarrel.xVowed] : Array Value)[o]?) := ⟨XN.at.1, XR.at.1⟩
        refine wpAnyH_take (i := 0) (v := ?vn234) rfl (by kernel_rfl) (by kernel_rfl) (by kernel_rfl) (fun _ _ _ h => h) (Or.inl ⟨by rfl, ?hn234⟩) hS ?rn234
        case hn234 => intro w' hSw; go_simp; (try with_reducible rfl)
        (try simp only [List.getElem_toArray]); (try simp only [List.getElem_cons_succ]); (try simp only [List.getElem_cons_zero]); (try simp only [Act.put]); (try simp only [List.setIfInBounds_toArray]); (try simp only [List.set_cons_succ]); (try simp only [List.set_cons_zero])
        refine wpAnyH_take (i := 1) (v := ?vn235) rfl (by kernel_rfl) (by kernel_rfl) (by kernel_rfl) (fun _ _ _ h => h) (Or.inl ⟨by rfl, ?hn235⟩) hS ?rn235
        case hn235 => intro w' hSw; go_simp; (try with_reducible rfl)
        (try simp only [List.getElem_toArray]); (try simp only [List.getElem_cons_succ]); (try simp only [List.getElem_cons_zero]); (try simp only [Act.put]); (try simp only [List.setIfInBounds_toArray]); (try simp only [List.set_cons_succ]); (try simp only [List.set_cons_zero])
        refine wpAnyH_take (i := 2) (v := ?vn236) rfl (by kernel_rfl) (by kernel_rfl) (by kernel_rfl) (fun _ _ _ h => h) (Or.inl ⟨by rfl, ?hn236⟩) hS ?rn236
        case hn236 => intro w' hSw; go_simp; (try with_reducible rfl)
        (try simp only [List.getElem_toArray]); (try simp only [List.getElem_cons_succ]); (try simp only [List.getElem_cons_zero]); (try simp only [Act.put]); (try simp only [List.setIfInBounds_toArray]); (try simp only [List.set_cons_succ]); (try simp only [List.set_cons_zero])
        refine wpAnyH_take (i := 5) (v := ?vn237) rfl (by kernel_rfl) (by kernel_rfl) (by kernel_rfl) (fun _ _ _ h => h) (Or.inl ⟨by rfl, ?hn237⟩) hS ?rn237
        case hn237 => intro w' hSw; go_simp; (try with_reducible rfl)
        (try simp only [List.getElem_toArray]); (try simp only [List.getElem_cons_succ]); (try simp only [List.getElem_cons_zero]); (try simp only [Act.put]); (try simp only [List.setIfInBounds_toArray]); (try simp only [List.set_cons_succ]); (try simp only [List.set_cons_zero])
        refine wpAnyH_take (i := 6) (v := ?vn238) rfl (by kernel_rfl) (by kernel_rfl) (by kernel_rfl) (fun _ _ _ h => h) (Or.inl ⟨by rfl, ?hn238⟩) hS ?rn238
        case hn238 => intro w' hSw; go_simp; (try with_reducible rfl)
        (try simp only [List.getElem_toArray]); (try simp only [List.getElem_cons_succ]); (try simp only [List.getElem_cons_zero]); (try simp only [Act.put]); (try simp only [List.setIfInBounds_toArray]); (try simp only [List.set_cons_succ]); (try simp only [List.set_cons_zero])
        refine wpAnyH_ready (rs := [3]) (by kernel_rfl) (by simp) ?_
        refine AllReadyH.cons (o := _) rfl (fun K hK => ?_) AllReadyH.nil
        rw [if_pos (by rfl)]
        go_simp
        go_at_call 12
        clear hS
        refine (KRS _ rN).mono ?_
        rintro e w10 ⟨u9, bc0, bc1, bc2, bc3, rfl, ON9, -, -, -, -, k10⟩
        obtain ⟨s0, t0, s1, t1, s2, t2, s3, t3, rfl, -⟩ := ON9
        replace XN := XN.keep k10
        replace XR := XR.keep k10
        replace rN := rN.below k10
        replace rM := rM.below k10
        replace B := B.trans (k10.mono B.size)
        clear k10
        have hS : (∀ o, w10.cell? ⟨b3, o, none⟩ = (#[.slice p0 x.xTape.length c0, .slice p1 x.xUsed.length c1, .int .i64 x.xSent, .slice p2 x.xHeard.length c2, .int .i64 x.xCheat.xWho, .int .i64 x.xCheat.xAt, .int .i64 x.xCheat.xBy, .bool x.xCheat.xCry, .bool x.xQuarrel.xSome, .int .i64 x.xQuarrel.xFrom, .int .i64 x.xQuarrel.xCheck, .int .i64 x.xQuarrel.xTo, .int .i64 x.xQuarrel.xTold, .int .i64 x.xQuarrel.xHeard, .int .i64 x.xQuarrel.xOther, .int .i64 x.xQuarrel.xVowed] : Array Value)[o]?) ∧ (∀ o, w10.cell? ⟨b6, o, none⟩ = (#[.int .i64 R.xCode, .int .i64 R.xMirror.xQ, .slice q0 R.xMirror.xViews.length d0, .slice q1 R.xNet.xTape.length d1, .slice q2 R.xNet.xUsed.length d2, .int .i64 R.xNet.xSent, .slice q3 R.xNet.xHeard.length d3, .int .i64 R.xNet.xCheat.xWho, .int .i64 R.xNet.xCheat.xAt, .int .i64 R.xNet.xCheat.xBy, .bool R.xNet.xCheat.xCry, .bool R.xNet.xQuarrel.xSome, .int .i64 R.xNet.xQuarrel.xFrom, .int .i64 R.xNet.xQuarrel.xCheck, .int .i64 R.xNet.xQuarrel.xTo, .int .i64 R.xNet.xQuarrel.xTold, .int .i64 R.xNet.xQuarrel.xHeard, .int .i64 R.xNet.xQuarrel.xOther, .int .i64 R.xNet.xQuarrel.xVowed] : Array Value)[o]?) := ⟨XN.at.1, XR.at.1⟩
        refine hK.out _ _ hS (fun hS => ?_)
        clear hK K
        (try simp only [List.getElem_toArray]); (try simp only [List.getElem_cons_succ]); (try simp only [List.getElem_cons_zero]); (try simp only [Act.put]); (try simp only [List.setIfInBounds_toArray]); (try simp only [List.set_cons_succ]); (try simp only [List.set_cons_zero])
        refine wpAnyH_take (i := 4) (v := ?vn239) rfl (by kernel_rfl) (by kernel_rfl) (by kernel_rfl) (fun _ _ _ h => h) (Or.inl ⟨by rfl, ?hn239⟩) hS ?rn239
        case hn239 => intro w' hSw; go_simp; (try with_reducible rfl)
        (try simp only [List.getElem_toArray]); (try simp only [List.getElem_cons_succ]); (try simp only [List.getElem_cons_zero]); (try simp only [Act.put]); (try simp only [List.setIfInBounds_toArray]); (try simp only [List.set_cons_succ]); (try simp only [List.set_cons_zero])
        refine wpAnyH_take (i := 7) (v := ?vn240) rfl (by kernel_rfl) (by kernel_rfl) (by kernel_rfl) (fun _ _ _ h => h) (Or.inl ⟨by rfl, ?hn240⟩) hS ?rn240
        case hn240 => intro w' hSw; go_simp; (try with_reducible rfl)
        (try simp only [List.getElem_toArray]); (try simp only [List.getElem_cons_succ]); (try simp only [List.getElem_cons_zero]); (try simp only [Act.put]); (try simp only [List.setIfInBounds_toArray]); (try simp only [List.set_cons_succ]); (try simp only [List.set_cons_zero])
        refine wpAnyH_take (i := 8) (v := ?vn241) rfl (by kernel_rfl) (by kernel_rfl) (by kernel_rfl) (fun _ _ _ h => h) (Or.inl ⟨by rfl, ?hn241⟩) hS ?rn241
        case hn241 => intro w' hSw; go_simp; (try with_reducible rfl)
        (try simp only [List.getElem_toArray]); (try simp only [List.getElem_cons_succ]); (try simp only [List.getElem_cons_zero]); (try simp only [Act.put]); (try simp only [List.setIfInBounds_toArray]); (try simp only [List.set_cons_succ]); (try simp only [List.set_cons_zero])
        refine wpAnyH_done (by kernel_rfl) ?_ _
        clear hS
        go_wp2
        go_ret
        exact ⟨rfl, B⟩

/-! the row's step -/
set_option maxRecDepth 100000 in
theorem lifted (os : Os) (started : os.Started) (H : Type) (enc : TypeId × Value → H) :
    ReturnsInHanded {} Try.checked os 3 .any (Rows.fnInputsSpec.pre6 enc Try.prog Try.f3 Rows.fnInputsRow.domain false) (Rows.fnInputsSpec.post enc Try.prog Try.f3 false true false false) := by
  refine returnsInHanded_of_change (C := Try.checked) own started (by kernel_rfl) Try.func3
    (ChangeSpec.witness6 (enc := enc) (C := Try.checked) false ⟨#[], #[.slice none 0 0], []⟩ 8 (by kernel_rfl) (by kernel_rfl) (by kernel_rfl) (by kernel_rfl)) ?_
  intro W base args ds gs before hval0 hW hcnd _
  have hval : ∀ (j : Nat) t v, Try.f3.params[j]? = some t → args[j]? = some v → Value.okWide Try.prog W .any base t v := hval0
  have hW' := hW
  obtain ⟨p, q, hA0, hV, rfl, hfz, hnd⟩ := hW
  have hA : DataW.TrodAll enc Try.prog W 0 (fun _ => true) true Try.f3.params.toList args.toList ds p := hA0
  rw [Try.params3] at hA hval
  obtain ⟨v0, vs0, d0, ds0, p0, q0, hargs, rfl, rfl, h0, r0⟩ := trodAll_cons hA
  obtain ⟨rfl, rfl, rfl⟩ := trodAll_nil r0
  obtain rfl : args = #[v0] := by cases args; simp_all
  obtain ⟨rfl, rfl⟩ := trodVars_none hV
  obtain ⟨a0, len0, cap0, rfl⟩ := okWide_slice Try.underlying22 (hval 0 22 v0 rfl rfl)
  have k0 := h0
  have lt0 : ∀ x ∈ p0, x.block < W.heap.size := by obtain ⟨m, hm⟩ := k0; exact DataW.trod_lt m _ _ _ hm
  obtain ⟨z0, w0⟩ : ∃ zs, IsRow .u8 W a0 len0 cap0 zs := by
    obtain ⟨fuel, hf⟩ := h0
    rcases open_ints Try.underlying22 Try.underlying5 (by kernel_rfl) hf with ⟨hcs, _⟩ | ⟨x, l, c, zs, hcs, _, hl, hm, hz, _, hcell, hwz⟩
    · simp [Value.cells] at hcs
      obtain ⟨rfl, rfl, rfl⟩ := hcs
      exact ⟨[], .inl ⟨rfl, rfl, rfl, rfl⟩⟩
    · simp [Value.cells] at hcs
      obtain ⟨rfl, rfl, rfl⟩ := hcs
      exact ⟨zs, .inr ⟨_, rfl, hl, hm, by simpa using hz, hcell, hwz⟩⟩
  clear hA0 hval0
  refine (walk a0 len0 cap0 z0 W w0).mono fun e W' ⟨he, bel⟩ => ?_
  subst he
  exact ⟨_, rfl, _, _, _, [], _, [], hW', trodAll_mk1 (shut_bool Try.underlying4 _), (trodAll_cons_mk (Below.trod laidOut (by kernel_rfl) (of_decide_eq_true (by kernel_rfl)) k0 bel lt0) trodAll_mk0), rfl, bel.frame _, fun h => by cases h⟩

theorem over : Rows.fnInputsRow.holds Try.pinned (OpenSpec.ofChange Rows.fnInputsSpec) :=
  OpenClaim.holds_of_wide 3 Try.f3 rfl rfl rfl rfl rfl rfl rfl ⟨rfl, rfl, rfl, rfl, rfl⟩ rfl rfl rfl rfl rfl (by kernel_rfl) Try.func3 (by kernel_rfl)
    (of_decide_eq_true (by kernel_rfl)) (by unfold Func.isWrapper; first | (rw [if_pos (by decide +kernel)]; kernel_rfl) | (rw [if_neg (by decide +kernel)]; exact ⟨rfl, rfl⟩))
    (fun os started H enc _ => lifted os started H enc)

end Go.Proofs.Ytcnbkdpmcohlgac.fnInputs
namespace Go.Proofs.Ytcnbkdpmcohlgac
theorem fnInputs_holds : Rows.FnInputsSaid := fnInputs.over
#print axioms fnInputs_holds
end Go.Proofs.Ytcnbkdpmcohlgac
