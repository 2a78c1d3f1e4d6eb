/-
  FnSums answers true whatever bytes it draws from: sums, differences and multiples of mirrors are those of what they are worth.
-/
import Derived.Test.YtepobckhfodngaaDraw3d
import Derived.Test.YtepobckhfodngaaLawS
import Derived.Test.YtepobckhfodngaaMirR
import Derived.Test.YtepobckhfodngaaMirT
import Derived.Test.YtepobckhfodngaaMirZ
import Derived.Test.YtepobckhfodngaaMirZs
import Derived.Test.YtepobckhfodngaaMirUs
import Derived.Test.YtepobckhfodngaaMirUp
import Derived.Test.YtepobckhfodngaaLw
import Derived.Deep.RegionHeld3
import Derived.Deep.CutRange
import Derived.Deep.Cut
import Derived.Deep.RegionWith
import Derived.ShutString
import Derived.ChangeOld
import Derived.Below
namespace Go.Proofs.Ytepobckhfodngaa.fnSums
open Go.ChangeShapes Go.WideShapes Go.ChangeAt Go.RowKit
open Go.ChangeMaps (open_string shut_string)
set_option linter.unusedVariables false

theorem own : ownKnob Try.prog.godebug = none := by kernel_rfl
theorem laidOut : laidOutB Try.prog = true := by kernel_rfl

theorem fieldMR_0 (x y z : Value) (w : World) : (Instr.field 61 (.agg #[x, y, z]) 0).run Try.prog w = .ok x w := by kernel_rfl
theorem hadd (q : Int) : ∀ s t : Int, (s % q + t % q) % q = (s + t) % q := fun s t => by rw [← Int.add_emod]
theorem hsub (q : Int) : ∀ s t : Int, (s % q - t % q) % q = (s - t) % q := fun s t => by rw [← Int.sub_emod]
theorem hmul (q k : Int) : ∀ s t : Int, (s % q * k) % q = (s * k) % q := fun s t => by rw [Int.mul_emod, Int.emod_emod, ← Int.mul_emod]
set_option maxHeartbeats 64000000 in
set_option maxRecDepth 100000 in
theorem walk (a0 : Option Addr) (len0 cap0 : Nat) (z0 : List Int) (w : World) (w0 : IsRow .u8 w a0 len0 cap0 z0) :
    Calls Try.prog 8 #[.slice a0 len0 cap0] w fun e w' => e = .returned (.bool true) ∧ Below w.heap.size w w' := by
  obtain ⟨zs, rfl, hr, hw⟩ := w0.reads
  clear w0
  have hby := bytes_of hw
  clear hw
  by_cases hl : 1048576 < zs.length
  · go_enter Try.func8, Try.ntmps8
    go_wp2_with fail
    refine (lwBig_yes _ _ _ _ hl).mono ?_
    rintro e w' ⟨rfl, rfl⟩
    go_wp2
    go_ret
    exact ⟨rfl, Below.refl _ _⟩
  · have hl' : zs.length ≤ 1048576 := by omega
    have HR0 : Hid (Reads w .u8 (.slice a0 zs.length cap0) zs) := hr
    clear hr
    have fd0 := field_0
    have fd1 := field_1
    have fdm := fieldMR_0
    go_enter Try.func8, Try.ntmps8
    go_wp2_with fail
    refine (lwBig_no _ _ _ _ hl').mono ?_
    rintro e w' ⟨rfl, rfl⟩
    go_wp2_with fail
    refine (spec_DrawAddMirrors a0 cap0 zs w HR0.out hl' hby).mono ?_
    rintro e w1 ⟨u, u', xa, xb, rfl, ta, tb, B⟩
    obtain ⟨pa, ca, rfl, -⟩ := ta.rd
    obtain ⟨pb, cb, rfl, -⟩ := tb.rd
    have rA := ta.rd
    have rB := tb.rd
    clear ta tb
    have XA := (Blk.new w1 59 #[.int .i64 xa.xQ, .slice pa xa.xViews.length ca]).alloc (.cells #[.int .i64 xb.xQ, .slice pb xb.xViews.length cb] 59)
    have XB : Blk ((w1.alloc (.cells #[.int .i64 xa.xQ, .slice pa xa.xViews.length ca] 59)).alloc (.cells #[.int .i64 xb.xQ, .slice pb xb.xViews.length cb] 59)) (w1.heap.size + 1) 59 #[.int .i64 xb.xQ, .slice pb xb.xViews.length cb] := by simpa using Blk.new (w1.alloc (.cells #[.int .i64 xa.xQ, .slice pa xa.xViews.length ca] 59)) 59 #[.int .i64 xb.xQ, .slice pb xb.xViews.length cb]
    replace rA := (rA.below ((Below.refl _ _).alloc (Nat.le_refl _) (.cells #[.int .i64 xa.xQ, .slice pa xa.xViews.length ca] 59))).below ((Below.refl _ _).alloc (Nat.le_refl _) (.cells #[.int .i64 xb.xQ, .slice pb xb.xViews.length cb] 59))
    replace rB := (rB.below ((Below.refl _ _).alloc (Nat.le_refl _) (.cells #[.int .i64 xa.xQ, .slice pa xa.xViews.length ca] 59))).below ((Below.refl _ _).alloc (Nat.le_refl _) (.cells #[.int .i64 xb.xQ, .slice pb xb.xViews.length cb] 59))
    replace B := B.alloc B.size (.cells #[.int .i64 xa.xQ, .slice pa xa.xViews.length ca] 59)
    replace B := B.alloc B.size (.cells #[.int .i64 xb.xQ, .slice pb xb.xViews.length cb] 59)
    have KIS := fun u u' V h h' => impl_AddMirrors u u' xa xb V h h'
    have KSS := fun u u' V h h' => spec_AddMirrors u u' xa xb V h h'
    have KID := fun u u' V h h' => impl_SubMirrors u u' xa xb V h h'
    obtain ⟨RS, hRS⟩ : ∃ R, R = joinR (fun x y => x + y) xa xb := ⟨_, rfl⟩
    have HRS : Hid (RS = joinR (fun x y => x + y) xa xb) := hRS
    obtain ⟨RD, hRD⟩ : ∃ R, R = joinR (fun x y => x - y) xa xb := ⟨_, rfl⟩
    have HRD : Hid (RD = joinR (fun x y => x - y) xa xb) := hRD
    rw [← hRS] at KIS KSS
    rw [← hRD] at KID
    clear hRS hRD
    have XAa := XA.at.1
    have XBa := XB.at.1
    go_wp2_with fail
    clear XAa XBa
    obtain ⟨bB, hbB⟩ : ∃ n, n = w1.heap.size + 1 := ⟨_, rfl⟩
    rw [← hbB] at XB ⊢
    clear hbB
    generalize hgA : w1.heap.size = bA at *
    clear hgA
    refine Calls.at (F := fun V => Blk V bA 59 #[.int .i64 xa.xQ, .slice pa xa.xViews.length ca] ∧ Blk V bB 59 #[.int .i64 xb.xQ, .slice pb xb.xViews.length cb] ∧ RdMirror V (.agg #[.int .i64 xa.xQ, .slice pa xa.xViews.length ca]) xa ∧ RdMirror V (.agg #[.int .i64 xb.xQ, .slice pb xb.xViews.length cb]) xb ∧ Below w.heap.size w V) ⟨XA, XB, rA, rB, B⟩ ?_
    clear XA XB rA rB B
    rintro V1 ⟨XA, XB, rA, rB, B⟩
    refine (KIS _ _ _ rA rB).mono ?_
    rintro e w2 ⟨u, b9, rfl, hT, hf, k2⟩
    obtain ⟨ps, cs, rfl, hM⟩ := hT
    replace XA := XA.keep k2
    replace XB := XB.keep k2
    replace rA := rA.below k2
    replace rB := rB.below k2
    replace B := B.trans (k2.mono B.size)
    have rS : RdMirror w2 (.agg #[.int .i64 RS.xMirror.xQ, .slice ps RS.xMirror.xViews.length cs]) RS.xMirror := ⟨ps, cs, rfl, hM.reads⟩
    replace XA := XA.alloc (.cells #[.int .i64 RS.xCode, .int .i64 RS.xMirror.xQ, .slice ps RS.xMirror.xViews.length cs] 61)
    replace XB := XB.alloc (.cells #[.int .i64 RS.xCode, .int .i64 RS.xMirror.xQ, .slice ps RS.xMirror.xViews.length cs] 61)
    replace rA := rA.below ((Below.refl _ _).alloc (Nat.le_refl _) (.cells #[.int .i64 RS.xCode, .int .i64 RS.xMirror.xQ, .slice ps RS.xMirror.xViews.length cs] 61))
    replace rB := rB.below ((Below.refl _ _).alloc (Nat.le_refl _) (.cells #[.int .i64 RS.xCode, .int .i64 RS.xMirror.xQ, .slice ps RS.xMirror.xViews.length cs] 61))
    replace rS := rS.below ((Below.refl _ _).alloc (Nat.le_refl _) (.cells #[.int .i64 RS.xCode, .int .i64 RS.xMirror.xQ, .slice ps RS.xMirror.xViews.length cs] 61))
    replace B := B.alloc B.size (.cells #[.int .i64 RS.xCode, .int .i64 RS.xMirror.xQ, .slice ps RS.xMirror.xViews.length cs] 61)
    have XS := Blk.new w2 61 #[.int .i64 RS.xCode, .int .i64 RS.xMirror.xQ, .slice ps RS.xMirror.xViews.length cs]
    clear hM hf k2
    have XAa := XA.at.1
    have XBa := XB.at.1
    go_wp2_with fail
    clear XAa XBa
    generalize hgS : w2.heap.size = bS at *
    clear hgS
    refine Calls.at (F := fun V => Blk V bA 59 #[.int .i64 xa.xQ, .slice pa xa.xViews.length ca] ∧ Blk V bB 59 #[.int .i64 xb.xQ, .slice pb xb.xViews.length cb] ∧ Blk V bS 61 #[.int .i64 RS.xCode, .int .i64 RS.xMirror.xQ, .slice ps RS.xMirror.xViews.length cs] ∧ RdMirror V (.agg #[.int .i64 xa.xQ, .slice pa xa.xViews.length ca]) xa ∧ RdMirror V (.agg #[.int .i64 xb.xQ, .slice pb xb.xViews.length cb]) xb ∧ RdMirror V (.agg #[.int .i64 RS.xMirror.xQ, .slice ps RS.xMirror.xViews.length cs]) RS.xMirror ∧ Below w.heap.size w V) ⟨XA, XB, XS, rA, rB, rS, B⟩ ?_
    clear XA XB XS rA rB rS B
    rintro V3 ⟨XA, XB, XS, rA, rB, rS, B⟩
    refine (KID _ _ _ rA rB).mono ?_
    rintro e w4 ⟨u, b9, rfl, hT, hf, k4⟩
    obtain ⟨pd, cd, rfl, hM⟩ := hT
    replace XA := XA.keep k4
    replace XB := XB.keep k4
    replace XS := XS.keep k4
    replace rA := rA.below k4
    replace rB := rB.below k4
    replace rS := rS.below k4
    replace B := B.trans (k4.mono B.size)
    have rD : RdMirror w4 (.agg #[.int .i64 RD.xMirror.xQ, .slice pd RD.xMirror.xViews.length cd]) RD.xMirror := ⟨pd, cd, rfl, hM.reads⟩
    replace XA := XA.alloc (.cells #[.int .i64 RD.xCode, .int .i64 RD.xMirror.xQ, .slice pd RD.xMirror.xViews.length cd] 61)
    replace XB := XB.alloc (.cells #[.int .i64 RD.xCode, .int .i64 RD.xMirror.xQ, .slice pd RD.xMirror.xViews.length cd] 61)
    replace XS := XS.alloc (.cells #[.int .i64 RD.xCode, .int .i64 RD.xMirror.xQ, .slice pd RD.xMirror.xViews.length cd] 61)
    replace rA := rA.below ((Below.refl _ _).alloc (Nat.le_refl _) (.cells #[.int .i64 RD.xCode, .int .i64 RD.xMirror.xQ, .slice pd RD.xMirror.xViews.length cd] 61))
    replace rB := rB.below ((Below.refl _ _).alloc (Nat.le_refl _) (.cells #[.int .i64 RD.xCode, .int .i64 RD.xMirror.xQ, .slice pd RD.xMirror.xViews.length cd] 61))
    replace rS := rS.below ((Below.refl _ _).alloc (Nat.le_refl _) (.cells #[.int .i64 RD.xCode, .int .i64 RD.xMirror.xQ, .slice pd RD.xMirror.xViews.length cd] 61))
    replace rD := rD.below ((Below.refl _ _).alloc (Nat.le_refl _) (.cells #[.int .i64 RD.xCode, .int .i64 RD.xMirror.xQ, .slice pd RD.xMirror.xViews.length cd] 61))
    replace B := B.alloc B.size (.cells #[.int .i64 RD.xCode, .int .i64 RD.xMirror.xQ, .slice pd RD.xMirror.xViews.length cd] 61)
    have XD := Blk.new w4 61 #[.int .i64 RD.xCode, .int .i64 RD.xMirror.xQ, .slice pd RD.xMirror.xViews.length cd]
    clear hM hf k4
    go_wp2_with fail
    generalize hgD : w4.heap.size = bD at *
    clear hgD
    refine Calls.at (F := fun V => Blk V bA 59 #[.int .i64 xa.xQ, .slice pa xa.xViews.length ca] ∧ Blk V bB 59 #[.int .i64 xb.xQ, .slice pb xb.xViews.length cb] ∧ Blk V bS 61 #[.int .i64 RS.xCode, .int .i64 RS.xMirror.xQ, .slice ps RS.xMirror.xViews.length cs] ∧ Blk V bD 61 #[.int .i64 RD.xCode, .int .i64 RD.xMirror.xQ, .slice pd RD.xMirror.xViews.length cd] ∧ RdMirror V (.agg #[.int .i64 xa.xQ, .slice pa xa.xViews.length ca]) xa ∧ RdMirror V (.agg #[.int .i64 xb.xQ, .slice pb xb.xViews.length cb]) xb ∧ RdMirror V (.agg #[.int .i64 RS.xMirror.xQ, .slice ps RS.xMirror.xViews.length cs]) RS.xMirror ∧ RdMirror V (.agg #[.int .i64 RD.xMirror.xQ, .slice pd RD.xMirror.xViews.length cd]) RD.xMirror ∧ Below w.heap.size w V) ⟨XA, XB, XS, XD, rA, rB, rS, rD, B⟩ ?_
    clear XA XB XS XD rA rB rS rD B
    rintro V5 ⟨XA, XB, XS, XD, rA, rB, rS, rD, B⟩
    refine (spec_DrawScaleMirror a0 cap0 zs _ (HR0.out.below B) hl' hby).mono ?_
    rintro e w6 ⟨u, xm, kk, rfl, tm, k6⟩
    obtain ⟨pm, cm, rfl, -⟩ := tm.rd
    replace XA := XA.keep k6
    replace XB := XB.keep k6
    replace XS := XS.keep k6
    replace XD := XD.keep k6
    replace rA := rA.below k6
    replace rB := rB.below k6
    replace rS := rS.below k6
    replace rD := rD.below k6
    replace B := B.trans (k6.mono B.size)
    have rM := tm.rd
    clear tm k6
    replace XA := XA.alloc (.cells #[.int .i64 xm.xQ, .slice pm xm.xViews.length cm] 59)
    replace XB := XB.alloc (.cells #[.int .i64 xm.xQ, .slice pm xm.xViews.length cm] 59)
    replace XS := XS.alloc (.cells #[.int .i64 xm.xQ, .slice pm xm.xViews.length cm] 59)
    replace XD := XD.alloc (.cells #[.int .i64 xm.xQ, .slice pm xm.xViews.length cm] 59)
    replace rA := rA.below ((Below.refl _ _).alloc (Nat.le_refl _) (.cells #[.int .i64 xm.xQ, .slice pm xm.xViews.length cm] 59))
    replace rB := rB.below ((Below.refl _ _).alloc (Nat.le_refl _) (.cells #[.int .i64 xm.xQ, .slice pm xm.xViews.length cm] 59))
    replace rS := rS.below ((Below.refl _ _).alloc (Nat.le_refl _) (.cells #[.int .i64 xm.xQ, .slice pm xm.xViews.length cm] 59))
    replace rD := rD.below ((Below.refl _ _).alloc (Nat.le_refl _) (.cells #[.int .i64 xm.xQ, .slice pm xm.xViews.length cm] 59))
    replace rM := rM.below ((Below.refl _ _).alloc (Nat.le_refl _) (.cells #[.int .i64 xm.xQ, .slice pm xm.xViews.length cm] 59))
    replace B := B.alloc B.size (.cells #[.int .i64 xm.xQ, .slice pm xm.xViews.length cm] 59)
    have XM := Blk.new w6 59 #[.int .i64 xm.xQ, .slice pm xm.xViews.length cm]
    have KIZ := fun u V h => impl_ScaleMirror u xm kk V h
    have KSZ := fun u V h => spec_ScaleMirror u xm kk V h
    obtain ⟨RZ, hRZ⟩ : ∃ R, R = scaleR xm kk := ⟨_, rfl⟩
    have HRZ : Hid (RZ = scaleR xm kk) := hRZ
    rw [← hRZ] at KIZ KSZ
    clear hRZ
    have XMa := XM.at.1
    go_wp2_with fail
    clear XMa
    generalize hgM : w6.heap.size = bM at *
    clear hgM
    refine Calls.at (F := fun V => Blk V bA 59 #[.int .i64 xa.xQ, .slice pa xa.xViews.length ca] ∧ Blk V bB 59 #[.int .i64 xb.xQ, .slice pb xb.xViews.length cb] ∧ Blk V bS 61 #[.int .i64 RS.xCode, .int .i64 RS.xMirror.xQ, .slice ps RS.xMirror.xViews.length cs] ∧ Blk V bD 61 #[.int .i64 RD.xCode, .int .i64 RD.xMirror.xQ, .slice pd RD.xMirror.xViews.length cd] ∧ Blk V bM 59 #[.int .i64 xm.xQ, .slice pm xm.xViews.length cm] ∧ RdMirror V (.agg #[.int .i64 xa.xQ, .slice pa xa.xViews.length ca]) xa ∧ RdMirror V (.agg #[.int .i64 xb.xQ, .slice pb xb.xViews.length cb]) xb ∧ RdMirror V (.agg #[.int .i64 RS.xMirror.xQ, .slice ps RS.xMirror.xViews.length cs]) RS.xMirror ∧ RdMirror V (.agg #[.int .i64 RD.xMirror.xQ, .slice pd RD.xMirror.xViews.length cd]) RD.xMirror ∧ RdMirror V (.agg #[.int .i64 xm.xQ, .slice pm xm.xViews.length cm]) xm ∧ Below w.heap.size w V) ⟨XA, XB, XS, XD, XM, rA, rB, rS, rD, rM, B⟩ ?_
    clear XA XB XS XD XM rA rB rS rD rM B
    rintro V7 ⟨XA, XB, XS, XD, XM, rA, rB, rS, rD, rM, B⟩
    refine (KIZ _ _ rM).mono ?_
    rintro e w8 ⟨u, b9, rfl, hT, hf, k8⟩
    obtain ⟨pz, cz, rfl, hM⟩ := hT
    replace XA := XA.keep k8
    replace XB := XB.keep k8
    replace XS := XS.keep k8
    replace XD := XD.keep k8
    replace XM := XM.keep k8
    replace rA := rA.below k8
    replace rB := rB.below k8
    replace rS := rS.below k8
    replace rD := rD.below k8
    replace rM := rM.below k8
    replace B := B.trans (k8.mono B.size)
    have rZ : RdMirror w8 (.agg #[.int .i64 RZ.xMirror.xQ, .slice pz RZ.xMirror.xViews.length cz]) RZ.xMirror := ⟨pz, cz, rfl, hM.reads⟩
    replace XA := XA.alloc (.cells #[.int .i64 RZ.xCode, .int .i64 RZ.xMirror.xQ, .slice pz RZ.xMirror.xViews.length cz] 61)
    replace XB := XB.alloc (.cells #[.int .i64 RZ.xCode, .int .i64 RZ.xMirror.xQ, .slice pz RZ.xMirror.xViews.length cz] 61)
    replace XS := XS.alloc (.cells #[.int .i64 RZ.xCode, .int .i64 RZ.xMirror.xQ, .slice pz RZ.xMirror.xViews.length cz] 61)
    replace XD := XD.alloc (.cells #[.int .i64 RZ.xCode, .int .i64 RZ.xMirror.xQ, .slice pz RZ.xMirror.xViews.length cz] 61)
    replace XM := XM.alloc (.cells #[.int .i64 RZ.xCode, .int .i64 RZ.xMirror.xQ, .slice pz RZ.xMirror.xViews.length cz] 61)
    replace rA := rA.below ((Below.refl _ _).alloc (Nat.le_refl _) (.cells #[.int .i64 RZ.xCode, .int .i64 RZ.xMirror.xQ, .slice pz RZ.xMirror.xViews.length cz] 61))
    replace rB := rB.below ((Below.refl _ _).alloc (Nat.le_refl _) (.cells #[.int .i64 RZ.xCode, .int .i64 RZ.xMirror.xQ, .slice pz RZ.xMirror.xViews.length cz] 61))
    replace rS := rS.below ((Below.refl _ _).alloc (Nat.le_refl _) (.cells #[.int .i64 RZ.xCode, .int .i64 RZ.xMirror.xQ, .slice pz RZ.xMirror.xViews.length cz] 61))
    replace rD := rD.below ((Below.refl _ _).alloc (Nat.le_refl _) (.cells #[.int .i64 RZ.xCode, .int .i64 RZ.xMirror.xQ, .slice pz RZ.xMirror.xViews.length cz] 61))
    replace rM := rM.below ((Below.refl _ _).alloc (Nat.le_refl _) (.cells #[.int .i64 RZ.xCode, .int .i64 RZ.xMirror.xQ, .slice pz RZ.xMirror.xViews.length cz] 61))
    replace rZ := rZ.below ((Below.refl _ _).alloc (Nat.le_refl _) (.cells #[.int .i64 RZ.xCode, .int .i64 RZ.xMirror.xQ, .slice pz RZ.xMirror.xViews.length cz] 61))
    replace B := B.alloc B.size (.cells #[.int .i64 RZ.xCode, .int .i64 RZ.xMirror.xQ, .slice pz RZ.xMirror.xViews.length cz] 61)
    have XZ := Blk.new w8 61 #[.int .i64 RZ.xCode, .int .i64 RZ.xMirror.xQ, .slice pz RZ.xMirror.xViews.length cz]
    clear hM hf k8
    go_wp2_with fail
    generalize hgZ : w8.heap.size = bZ at *
    clear hgZ KIZ
    obtain ⟨W8, hW8⟩ : ∃ x, x = (w8.alloc (.cells #[.int .i64 RZ.xCode, .int .i64 RZ.xMirror.xQ, .slice pz RZ.xMirror.xViews.length cz] 61)) := ⟨_, rfl⟩
    rw [← hW8] at XA XB XS XD XM XZ rA rB rS rD rM rZ B ⊢
    clear hW8
    go_cut [66] from 15 (fun s wr => s = .bool false ∧ Blk wr bA 59 #[.int .i64 xa.xQ, .slice pa xa.xViews.length ca] ∧ Blk wr bB 59 #[.int .i64 xb.xQ, .slice pb xb.xViews.length cb] ∧ Blk wr bS 61 #[.int .i64 RS.xCode, .int .i64 RS.xMirror.xQ, .slice ps RS.xMirror.xViews.length cs] ∧ Blk wr bD 61 #[.int .i64 RD.xCode, .int .i64 RD.xMirror.xQ, .slice pd RD.xMirror.xViews.length cd] ∧ Blk wr bM 59 #[.int .i64 xm.xQ, .slice pm xm.xViews.length cm] ∧ Blk wr bZ 61 #[.int .i64 RZ.xCode, .int .i64 RZ.xMirror.xQ, .slice pz RZ.xMirror.xViews.length cz] ∧ RdMirror wr (.agg #[.int .i64 xa.xQ, .slice pa xa.xViews.length ca]) xa ∧ RdMirror wr (.agg #[.int .i64 xb.xQ, .slice pb xb.xViews.length cb]) xb ∧ RdMirror wr (.agg #[.int .i64 RS.xMirror.xQ, .slice ps RS.xMirror.xViews.length cs]) RS.xMirror ∧ RdMirror wr (.agg #[.int .i64 RD.xMirror.xQ, .slice pd RD.xMirror.xViews.length cd]) RD.xMirror ∧ RdMirror wr (.agg #[.int .i64 xm.xQ, .slice pm xm.xViews.length cm]) xm ∧ RdMirror wr (.agg #[.int .i64 RZ.xMirror.xQ, .slice pz RZ.xMirror.xViews.length cz]) RZ.xMirror ∧ Below w.heap.size w wr)
    case first =>
      by_cases hc : RZ.xCode = 0
      · have hcz : (scaleR xm kk).xCode = 0 := by rw [← HRZ.out]; exact hc
        obtain ⟨hm0, hk1, hk2⟩ := scaleR_code hcz
        clear hcz
        have KIA := fun u V h => impl_IsAlike u xm (-1) V h
        cases hAl : isAlikeR xm.xQ xm.xViews (-1)
        · as_aux_lemma =>
            rw [hAl] at KIA
            clear hAl hm0 hk1 hk2
            refine wp_region_held (S := fun V => (∀ o, V.cell? ⟨bZ, o, none⟩ = (#[.int .i64 RZ.xCode, .int .i64 RZ.xMirror.xQ, .slice pz RZ.xMirror.xViews.length cz] : Array Value)[o]?) ∧ (∀ o, V.cell? ⟨bM, o, none⟩ = (#[.int .i64 xm.xQ, .slice pm xm.xViews.length cm] : Array Value)[o]?)) (by kernel_rfl) ?_
            try (change wpAnyH _ _ _ _ _ _ _ _ (World.drew _))
            replace XA := XA.drew
            replace XB := XB.drew
            replace XS := XS.drew
            replace XD := XD.drew
            replace XM := XM.drew
            replace XZ := XZ.drew
            replace rA := rA.below (Below.refl _ _).drew
            replace rB := rB.below (Below.refl _ _).drew
            replace rS := rS.below (Below.refl _ _).drew
            replace rD := rD.below (Below.refl _ _).drew
            replace rM := rM.below (Below.refl _ _).drew
            replace rZ := rZ.below (Below.refl _ _).drew
            replace B := B.drew
            have hS : (∀ o, W8.drew.cell? ⟨bZ, o, none⟩ = (#[.int .i64 RZ.xCode, .int .i64 RZ.xMirror.xQ, .slice pz RZ.xMirror.xViews.length cz] : Array Value)[o]?) ∧ (∀ o, W8.drew.cell? ⟨bM, o, none⟩ = (#[.int .i64 xm.xQ, .slice pm xm.xViews.length cm] : Array Value)[o]?) := ⟨XZ.at.1, XM.at.1⟩
            refine wpAnyH_take (i := 0) (v := ?vn1) rfl (by kernel_rfl) (by kernel_rfl) (by kernel_rfl) (fun _ _ _ h => h) (Or.inl ⟨by rfl, ?hn1⟩) hS ?rn1
            case hn1 => intro w' hSw; go_simp; (try with_reducible rfl)
            (try simp only [List.getElem_toArray]); (try simp only [List.getElem_cons_succ]); (try simp only [List.getElem_cons_zero]); (try simp only [Act.put]); (try simp only [List.setIfInBounds_toArray]); (try simp only [List.set_cons_succ]); (try simp only [List.set_cons_zero])
            refine wpAnyH_take (i := 1) (v := ?vn2) rfl (by kernel_rfl) (by kernel_rfl) (by kernel_rfl) (fun _ _ _ h => h) (Or.inl ⟨by rfl, ?hn2⟩) hS ?rn2
            case hn2 => intro w' hSw; go_simp; (try with_reducible rfl)
            (try simp only [List.getElem_toArray]); (try simp only [List.getElem_cons_succ]); (try simp only [List.getElem_cons_zero]); (try simp only [Act.put]); (try simp only [List.setIfInBounds_toArray]); (try simp only [List.set_cons_succ]); (try simp only [List.set_cons_zero])
            refine wpAnyH_take (i := 2) (v := ?vn3) rfl (by kernel_rfl) (by kernel_rfl) (by kernel_rfl) (fun _ _ _ h => h) (Or.inl ⟨by rfl, ?hn3⟩) hS ?rn3
            case hn3 => intro w' hSw; go_simp; (try with_reducible rfl)
            (try simp only [List.getElem_toArray]); (try simp only [List.getElem_cons_succ]); (try simp only [List.getElem_cons_zero]); (try simp only [Act.put]); (try simp only [List.setIfInBounds_toArray]); (try simp only [List.set_cons_succ]); (try simp only [List.set_cons_zero])
            refine wpAnyH_take (i := 3) (v := ?vn4) rfl (by kernel_rfl) (by kernel_rfl) (by kernel_rfl) (fun _ _ _ h => h) (Or.inl ⟨by rfl, ?hn4⟩) hS ?rn4
            case hn4 => intro w' hSw; go_simp; (try with_reducible rfl)
            (try simp only [List.getElem_toArray]); (try simp only [List.getElem_cons_succ]); (try simp only [List.getElem_cons_zero]); (try simp only [Act.put]); (try simp only [List.setIfInBounds_toArray]); (try simp only [List.set_cons_succ]); (try simp only [List.set_cons_zero])
            refine wpAnyH_ready (rs := [4]) (by kernel_rfl) (by simp) ?_
            refine AllReadyH.cons (o := _) rfl (fun K hK => ?_) AllReadyH.nil
            rw [if_pos (by rfl)]
            go_simp
            go_at_call 56
            clear hS
            refine (KSZ _ _ rM).mono ?_
            rintro e w9 ⟨u, b9, rfl, hT, hf, k9⟩
            obtain ⟨p9, c9, rfl⟩ := hT.shp
            clear hT hf
            replace XA := XA.keep k9
            replace XB := XB.keep k9
            replace XS := XS.keep k9
            replace XD := XD.keep k9
            replace XM := XM.keep k9
            replace XZ := XZ.keep k9
            replace rA := rA.below k9
            replace rB := rB.below k9
            replace rS := rS.below k9
            replace rD := rD.below k9
            replace rM := rM.below k9
            replace rZ := rZ.below k9
            replace B := B.trans (k9.mono B.size)
            clear k9
            (try dsimp only)
            refine hK.out _ _ ⟨XZ.at.1, XM.at.1⟩ (fun hS => ?_)
            clear hK K
            (try simp only [List.getElem_toArray]); (try simp only [List.getElem_cons_succ]); (try simp only [List.getElem_cons_zero]); (try simp only [Act.put]); (try simp only [List.setIfInBounds_toArray]); (try simp only [List.set_cons_succ]); (try simp only [List.set_cons_zero])
            refine wpAnyH_take (i := 5) (v := ?vn5) rfl (by kernel_rfl) (by kernel_rfl) (by kernel_rfl) (fun _ _ _ h => h) (Or.inl ⟨by rfl, ?hn5⟩) hS ?rn5
            case hn5 => intro w' hSw; go_simp; (try with_reducible rfl)
            (try simp only [List.getElem_toArray]); (try simp only [List.getElem_cons_succ]); (try simp only [List.getElem_cons_zero]); (try simp only [Act.put]); (try simp only [List.setIfInBounds_toArray]); (try simp only [List.set_cons_succ]); (try simp only [List.set_cons_zero])
            refine wpAnyH_take (i := 6) (v := ?vn6) rfl (by kernel_rfl) (by kernel_rfl) (by kernel_rfl) (fun _ _ _ h => h) (Or.inl ⟨by rfl, ?hn6⟩) hS ?rn6
            case hn6 => intro w' hSw; go_simp; (try with_reducible rfl)
            (try simp only [List.getElem_toArray]); (try simp only [List.getElem_cons_succ]); (try simp only [List.getElem_cons_zero]); (try simp only [Act.put]); (try simp only [List.setIfInBounds_toArray]); (try simp only [List.set_cons_succ]); (try simp only [List.set_cons_zero])
            refine wpAnyH_take (i := 7) (v := ?vn7) rfl (by kernel_rfl) (by kernel_rfl) (by kernel_rfl) (fun _ _ _ h => h) (Or.inl ⟨by rfl, ?hn7⟩) hS ?rn7
            case hn7 => intro w' hSw; go_simp; (try with_reducible rfl)
            (try simp only [List.getElem_toArray]); (try simp only [List.getElem_cons_succ]); (try simp only [List.getElem_cons_zero]); (try simp only [Act.put]); (try simp only [List.setIfInBounds_toArray]); (try simp only [List.set_cons_succ]); (try simp only [List.set_cons_zero])
            refine wpAnyH_take (i := 8) (v := ?vn8) rfl (by kernel_rfl) (by kernel_rfl) (by kernel_rfl) (fun _ _ _ h => h) (Or.inl ⟨by rfl, ?hn8⟩) hS ?rn8
            case hn8 => intro w' hSw; go_simp; (try with_reducible rfl)
            (try simp only [List.getElem_toArray]); (try simp only [List.getElem_cons_succ]); (try simp only [List.getElem_cons_zero]); (try simp only [Act.put]); (try simp only [List.setIfInBounds_toArray]); (try simp only [List.set_cons_succ]); (try simp only [List.set_cons_zero])
            refine wpAnyH_take (i := 9) (v := ?vn9) rfl (by kernel_rfl) (by kernel_rfl) (by kernel_rfl) (fun _ _ _ h => h) (Or.inl ⟨by rfl, ?hn9⟩) hS ?rn9
            case hn9 => intro w' hSw; go_simp; (try with_reducible rfl)
            (try simp only [List.getElem_toArray]); (try simp only [List.getElem_cons_succ]); (try simp only [List.getElem_cons_zero]); (try simp only [Act.put]); (try simp only [List.setIfInBounds_toArray]); (try simp only [List.set_cons_succ]); (try simp only [List.set_cons_zero])
            refine wpAnyH_take (i := 10) (v := ?vn10) rfl (by kernel_rfl) (by kernel_rfl) (by kernel_rfl) (fun _ _ _ h => h) (Or.inl ⟨by rfl, ?hn10⟩) hS ?rn10
            case hn10 => intro w' hSw; go_simp; (try with_reducible rfl)
            (try simp only [List.getElem_toArray]); (try simp only [List.getElem_cons_succ]); (try simp only [List.getElem_cons_zero]); (try simp only [Act.put]); (try simp only [List.setIfInBounds_toArray]); (try simp only [List.set_cons_succ]); (try simp only [List.set_cons_zero])
            refine wpAnyH_take (i := 11) (v := ?vn11) rfl (by kernel_rfl) (by kernel_rfl) (by kernel_rfl) (fun _ _ _ h => h) (Or.inl ⟨by rfl, ?hn11⟩) hS ?rn11
            case hn11 => intro w' hSw; go_simp; (try with_reducible rfl)
            (try simp only [List.getElem_toArray]); (try simp only [List.getElem_cons_succ]); (try simp only [List.getElem_cons_zero]); (try simp only [Act.put]); (try simp only [List.setIfInBounds_toArray]); (try simp only [List.set_cons_succ]); (try simp only [List.set_cons_zero])
            refine wpAnyH_take (i := 12) (v := ?vn12) rfl (by kernel_rfl) (by kernel_rfl) (by kernel_rfl) (fun _ _ _ h => h) (Or.inl ⟨by rfl, ?hn12⟩) hS ?rn12
            case hn12 => intro w' hSw; go_simp; (try with_reducible rfl)
            (try simp only [List.getElem_toArray]); (try simp only [List.getElem_cons_succ]); (try simp only [List.getElem_cons_zero]); (try simp only [Act.put]); (try simp only [List.setIfInBounds_toArray]); (try simp only [List.set_cons_succ]); (try simp only [List.set_cons_zero])
            refine wpAnyH_ready (rs := [13]) (by kernel_rfl) (by simp) ?_
            refine AllReadyH.cons (o := _) rfl (fun K hK => ?_) AllReadyH.nil
            rw [if_pos (by rfl)]
            go_simp
            go_at_call 46
            clear hS
            refine (KIA _ _ rM).mono ?_
            rintro e w10 ⟨rfl, k10⟩
            replace XA := XA.keep k10
            replace XB := XB.keep k10
            replace XS := XS.keep k10
            replace XD := XD.keep k10
            replace XM := XM.keep k10
            replace XZ := XZ.keep k10
            replace rA := rA.below k10
            replace rB := rB.below k10
            replace rS := rS.below k10
            replace rD := rD.below k10
            replace rM := rM.below k10
            replace rZ := rZ.below k10
            replace B := B.trans (k10.mono B.size)
            clear k10
            (try dsimp only)
            refine hK.out _ _ ⟨XZ.at.1, XM.at.1⟩ (fun hS => ?_)
            clear hK K
            (try simp only [List.getElem_toArray]); (try simp only [List.getElem_cons_succ]); (try simp only [List.getElem_cons_zero]); (try simp only [Act.put]); (try simp only [List.setIfInBounds_toArray]); (try simp only [List.set_cons_succ]); (try simp only [List.set_cons_zero])
            refine wpAnyH_take (i := 14) (v := ?vn13) rfl (by kernel_rfl) (by kernel_rfl) (by kernel_rfl) (fun _ _ _ h => h) (Or.inl ⟨by rfl, ?hn13⟩) hS ?rn13
            case hn13 => intro w' hSw; go_simp; (try with_reducible rfl)
            (try simp only [List.getElem_toArray]); (try simp only [List.getElem_cons_succ]); (try simp only [List.getElem_cons_zero]); (try simp only [Act.put]); (try simp only [List.setIfInBounds_toArray]); (try simp only [List.set_cons_succ]); (try simp only [List.set_cons_zero])
            refine wpAnyH_take (i := 15) (v := ?vn14) rfl (by kernel_rfl) (by kernel_rfl) (by kernel_rfl) (fun _ _ _ h => h) (Or.inl ⟨by rfl, ?hn14⟩) hS ?rn14
            case hn14 => intro w' hSw; go_simp; (try with_reducible rfl)
            (try simp only [List.getElem_toArray]); (try simp only [List.getElem_cons_succ]); (try simp only [List.getElem_cons_zero]); (try simp only [Act.put]); (try simp only [List.setIfInBounds_toArray]); (try simp only [List.set_cons_succ]); (try simp only [List.set_cons_zero])
            refine wpAnyH_take (i := 16) (v := undef) rfl (by kernel_rfl) (by kernel_rfl) (by kernel_rfl) (fun _ _ _ h => h) (Or.inr ⟨by rfl, rfl⟩) hS ?_
            (try simp only [List.getElem_toArray]); (try simp only [List.getElem_cons_succ]); (try simp only [List.getElem_cons_zero]); (try simp only [Act.put]); (try simp only [List.setIfInBounds_toArray]); (try simp only [List.set_cons_succ]); (try simp only [List.set_cons_zero])
            refine wpAnyH_take (i := 17) (v := undef) rfl (by kernel_rfl) (by kernel_rfl) (by kernel_rfl) (fun _ _ _ h => h) (Or.inr ⟨by rfl, rfl⟩) hS ?_
            (try simp only [List.getElem_toArray]); (try simp only [List.getElem_cons_succ]); (try simp only [List.getElem_cons_zero]); (try simp only [Act.put]); (try simp only [List.setIfInBounds_toArray]); (try simp only [List.set_cons_succ]); (try simp only [List.set_cons_zero])
            refine wpAnyH_take (i := 18) (v := undef) rfl (by kernel_rfl) (by kernel_rfl) (by kernel_rfl) (fun _ _ _ h => h) (Or.inr ⟨by rfl, rfl⟩) hS ?_
            (try simp only [List.getElem_toArray]); (try simp only [List.getElem_cons_succ]); (try simp only [List.getElem_cons_zero]); (try simp only [Act.put]); (try simp only [List.setIfInBounds_toArray]); (try simp only [List.set_cons_succ]); (try simp only [List.set_cons_zero])
            refine wpAnyH_take (i := 19) (v := undef) rfl (by kernel_rfl) (by kernel_rfl) (by kernel_rfl) (fun _ _ _ h => h) (Or.inr ⟨by rfl, rfl⟩) hS ?_
            (try simp only [List.getElem_toArray]); (try simp only [List.getElem_cons_succ]); (try simp only [List.getElem_cons_zero]); (try simp only [Act.put]); (try simp only [List.setIfInBounds_toArray]); (try simp only [List.set_cons_succ]); (try simp only [List.set_cons_zero])
            refine wpAnyH_take (i := 20) (v := undef) rfl (by kernel_rfl) (by kernel_rfl) (by kernel_rfl) (fun _ _ _ h => h) (Or.inr ⟨by rfl, rfl⟩) hS ?_
            (try simp only [List.getElem_toArray]); (try simp only [List.getElem_cons_succ]); (try simp only [List.getElem_cons_zero]); (try simp only [Act.put]); (try simp only [List.setIfInBounds_toArray]); (try simp only [List.set_cons_succ]); (try simp only [List.set_cons_zero])
            refine wpAnyH_take (i := 21) (v := undef) rfl (by kernel_rfl) (by kernel_rfl) (by kernel_rfl) (fun _ _ _ h => h) (Or.inr ⟨by rfl, rfl⟩) hS ?_
            (try simp only [List.getElem_toArray]); (try simp only [List.getElem_cons_succ]); (try simp only [List.getElem_cons_zero]); (try simp only [Act.put]); (try simp only [List.setIfInBounds_toArray]); (try simp only [List.set_cons_succ]); (try simp only [List.set_cons_zero])
            refine wpAnyH_take (i := 22) (v := undef) rfl (by kernel_rfl) (by kernel_rfl) (by kernel_rfl) (fun _ _ _ h => h) (Or.inr ⟨by rfl, rfl⟩) hS ?_
            (try simp only [List.getElem_toArray]); (try simp only [List.getElem_cons_succ]); (try simp only [List.getElem_cons_zero]); (try simp only [Act.put]); (try simp only [List.setIfInBounds_toArray]); (try simp only [List.set_cons_succ]); (try simp only [List.set_cons_zero])
            refine wpAnyH_take (i := 23) (v := undef) rfl (by kernel_rfl) (by kernel_rfl) (by kernel_rfl) (fun _ _ _ h => h) (Or.inr ⟨by rfl, rfl⟩) hS ?_
            (try simp only [List.getElem_toArray]); (try simp only [List.getElem_cons_succ]); (try simp only [List.getElem_cons_zero]); (try simp only [Act.put]); (try simp only [List.setIfInBounds_toArray]); (try simp only [List.set_cons_succ]); (try simp only [List.set_cons_zero])
            refine wpAnyH_take (i := 24) (v := undef) rfl (by kernel_rfl) (by kernel_rfl) (by kernel_rfl) (fun _ _ _ h => h) (Or.inr ⟨by rfl, rfl⟩) hS ?_
            (try simp only [List.getElem_toArray]); (try simp only [List.getElem_cons_succ]); (try simp only [List.getElem_cons_zero]); (try simp only [Act.put]); (try simp only [List.setIfInBounds_toArray]); (try simp only [List.set_cons_succ]); (try simp only [List.set_cons_zero])
            refine wpAnyH_take (i := 25) (v := undef) rfl (by kernel_rfl) (by kernel_rfl) (by kernel_rfl) (fun _ _ _ h => h) (Or.inr ⟨by rfl, rfl⟩) hS ?_
            (try simp only [List.getElem_toArray]); (try simp only [List.getElem_cons_succ]); (try simp only [List.getElem_cons_zero]); (try simp only [Act.put]); (try simp only [List.setIfInBounds_toArray]); (try simp only [List.set_cons_succ]); (try simp only [List.set_cons_zero])
            refine wpAnyH_take (i := 26) (v := undef) rfl (by kernel_rfl) (by kernel_rfl) (by kernel_rfl) (fun _ _ _ h => h) (Or.inr ⟨by rfl, rfl⟩) hS ?_
            (try simp only [List.getElem_toArray]); (try simp only [List.getElem_cons_succ]); (try simp only [List.getElem_cons_zero]); (try simp only [Act.put]); (try simp only [List.setIfInBounds_toArray]); (try simp only [List.set_cons_succ]); (try simp only [List.set_cons_zero])
            refine wpAnyH_take (i := 27) (v := undef) rfl (by kernel_rfl) (by kernel_rfl) (by kernel_rfl) (fun _ _ _ h => h) (Or.inr ⟨by rfl, rfl⟩) hS ?_
            (try simp only [List.getElem_toArray]); (try simp only [List.getElem_cons_succ]); (try simp only [List.getElem_cons_zero]); (try simp only [Act.put]); (try simp only [List.setIfInBounds_toArray]); (try simp only [List.set_cons_succ]); (try simp only [List.set_cons_zero])
            refine wpAnyH_take (i := 28) (v := undef) rfl (by kernel_rfl) (by kernel_rfl) (by kernel_rfl) (fun _ _ _ h => h) (Or.inr ⟨by rfl, rfl⟩) hS ?_
            (try simp only [List.getElem_toArray]); (try simp only [List.getElem_cons_succ]); (try simp only [List.getElem_cons_zero]); (try simp only [Act.put]); (try simp only [List.setIfInBounds_toArray]); (try simp only [List.set_cons_succ]); (try simp only [List.set_cons_zero])
            refine wpAnyH_take (i := 29) (v := ?vn15) rfl (by kernel_rfl) (by kernel_rfl) (by kernel_rfl) (fun _ _ _ h => h) (Or.inl ⟨by rfl, ?hn15⟩) hS ?rn15
            case hn15 => intro w' hSw; go_simp; (try with_reducible rfl)
            (try simp only [List.getElem_toArray]); (try simp only [List.getElem_cons_succ]); (try simp only [List.getElem_cons_zero]); (try simp only [Act.put]); (try simp only [List.setIfInBounds_toArray]); (try simp only [List.set_cons_succ]); (try simp only [List.set_cons_zero])
            refine wpAnyH_take (i := 30) (v := ?vn16) rfl (by kernel_rfl) (by kernel_rfl) (by kernel_rfl) (fun _ _ _ h => h) (Or.inl ⟨by rfl, ?hn16⟩) hS ?rn16
            case hn16 => intro w' hSw; go_simp; (try with_reducible rfl)
            (try simp only [List.getElem_toArray]); (try simp only [List.getElem_cons_succ]); (try simp only [List.getElem_cons_zero]); (try simp only [Act.put]); (try simp only [List.setIfInBounds_toArray]); (try simp only [List.set_cons_succ]); (try simp only [List.set_cons_zero])
            refine wpAnyH_done (by kernel_rfl) ?_ _
            clear hS
            go_wp2
            go_meet
            case rel => exact ⟨by simp, XA, XB, XS, XD, XM, XZ, rA, rB, rS, rD, rM, rZ, B⟩
        · as_aux_lemma =>
            rw [hAl] at KIA
            have hq := (mirC_zero hm0).1
            have q1 : 2 ≤ xm.xQ := by rcases hq with h | h <;> omega
            have q2 : xm.xQ ≤ 256 := by rcases hq with h | h <;> omega
            obtain ⟨_, hbt, hal⟩ := isAlikeR_true hAl
            have hVZ : valueR RZ.xMirror.xQ RZ.xMirror.xViews (-1) = ⟨0, ((valueR xm.xQ xm.xViews (-1)).xValue * kk) % xm.xQ⟩ := by
              have e := HRZ.out.trans (scaleR_ok (q := xm.xQ) (xss := xm.xViews) hm0 ⟨hk1, hk2⟩)
              rw [e]
              exact value_opRows (f := fun x _ => x * kk) (fun a b c d => Int.add_mul a b kk) (by simp) (hmul xm.xQ kk) hbt hm0 hm0 hal hal
            have hVM : valueR xm.xQ xm.xViews (-1) = ⟨0, (valueR xm.xQ xm.xViews (-1)).xValue⟩ := by have := value_code hAl; cases h : valueR xm.xQ xm.xViews (-1); rw [h] at this; simp at this; rw [this]
            obtain ⟨x1, x2⟩ := value_bd (but := -1) hm0
            have KVZ := fun u V h => impl_ValueOf u RZ.xMirror (-1) V h
            have KVM := fun u V h => impl_ValueOf u xm (-1) V h
            rw [hVZ] at KVZ
            rw [hVM] at KVM
            (try dsimp only at KVZ KVM)
            clear hVZ hVM hAl hq hbt hal hm0
            generalize (valueR xm.xQ xm.xViews (-1)).xValue = X at *
            have y1 : 0 ≤ X * kk := Int.mul_nonneg x1 hk1
            have y2 : X * kk ≤ 65025 := by
              have := Int.mul_le_mul (show X ≤ 255 by omega) (show kk ≤ 255 by omega) hk1 (by omega)
              omega
            have hwr : IntKind.i64.wrap (X * kk) = X * kk := by rw [IntWalk.i64_left]; exact IntWalk.wrap64_in _ ⟨by omega, by omega⟩
            have hS : (∀ o, W8.cell? ⟨bZ, o, none⟩ = (#[.int .i64 RZ.xCode, .int .i64 RZ.xMirror.xQ, .slice pz RZ.xMirror.xViews.length cz] : Array Value)[o]?) ∧ (∀ o, W8.cell? ⟨bM, o, none⟩ = (#[.int .i64 xm.xQ, .slice pm xm.xViews.length cm] : Array Value)[o]?) := ⟨XZ.at.1, XM.at.1⟩
            have tk0 : Hid True := trivial
            have tk1 : Hid True := trivial
            have tk2 : Hid True := trivial
            have tk3 : Hid True := trivial
            have tk4 : Hid True := trivial
            go_region_held3 (fun V => (∀ o, V.cell? ⟨bZ, o, none⟩ = (#[.int .i64 RZ.xCode, .int .i64 RZ.xMirror.xQ, .slice pz RZ.xMirror.xViews.length cz] : Array Value)[o]?) ∧ (∀ o, V.cell? ⟨bM, o, none⟩ = (#[.int .i64 xm.xQ, .slice pm xm.xViews.length cm] : Array Value)[o]?)) (exact hS) (first | (go_at_call 56; have _t := tk0; clear _t tk0; refine Calls.at (F := fun V => Blk V bA 59 #[.int .i64 xa.xQ, .slice pa xa.xViews.length ca] ∧ Blk V bB 59 #[.int .i64 xb.xQ, .slice pb xb.xViews.length cb] ∧ Blk V bS 61 #[.int .i64 RS.xCode, .int .i64 RS.xMirror.xQ, .slice ps RS.xMirror.xViews.length cs] ∧ Blk V bD 61 #[.int .i64 RD.xCode, .int .i64 RD.xMirror.xQ, .slice pd RD.xMirror.xViews.length cd] ∧ Blk V bM 59 #[.int .i64 xm.xQ, .slice pm xm.xViews.length cm] ∧ Blk V bZ 61 #[.int .i64 RZ.xCode, .int .i64 RZ.xMirror.xQ, .slice pz RZ.xMirror.xViews.length cz] ∧ RdMirror V (.agg #[.int .i64 xa.xQ, .slice pa xa.xViews.length ca]) xa ∧ RdMirror V (.agg #[.int .i64 xb.xQ, .slice pb xb.xViews.length cb]) xb ∧ RdMirror V (.agg #[.int .i64 RS.xMirror.xQ, .slice ps RS.xMirror.xViews.length cs]) RS.xMirror ∧ RdMirror V (.agg #[.int .i64 RD.xMirror.xQ, .slice pd RD.xMirror.xViews.length cd]) RD.xMirror ∧ RdMirror V (.agg #[.int .i64 xm.xQ, .slice pm xm.xViews.length cm]) xm ∧ RdMirror V (.agg #[.int .i64 RZ.xMirror.xQ, .slice pz RZ.xMirror.xViews.length cz]) RZ.xMirror ∧ Below w.heap.size w V) ?_ ?_; (first | exact ⟨XA, XB, XS, XD, XM, XZ, rA, rB, rS, rD, rM, rZ, B⟩ | exact ⟨XA.drew, XB.drew, XS.drew, XD.drew, XM.drew, XZ.drew, rA.below (Below.refl _ _).drew, rB.below (Below.refl _ _).drew, rS.below (Below.refl _ _).drew, rD.below (Below.refl _ _).drew, rM.below (Below.refl _ _).drew, rZ.below (Below.refl _ _).drew, B.drew⟩); clear hS XA XB XS XD XM XZ rA rB rS rD rM rZ B; rintro V11 ⟨XA, XB, XS, XD, XM, XZ, rA, rB, rS, rD, rM, rZ, B⟩; refine (KSZ _ _ rM).mono ?_; rintro e w11 ⟨u, b9, rfl, hT, hf, k11⟩; obtain ⟨p9, c9, rfl⟩ := hT.shp; clear hT hf; replace XA := XA.keep k11; replace XB := XB.keep k11; replace XS := XS.keep k11; replace XD := XD.keep k11; replace XM := XM.keep k11; replace XZ := XZ.keep k11; replace rA := rA.below k11; replace rB := rB.below k11; replace rS := rS.below k11; replace rD := rD.below k11; replace rM := rM.below k11; replace rZ := rZ.below k11; replace B := B.trans (k11.mono B.size); clear k11; have hS := (show (∀ o, w11.cell? ⟨bZ, o, none⟩ = (#[.int .i64 RZ.xCode, .int .i64 RZ.xMirror.xQ, .slice pz RZ.xMirror.xViews.length cz] : Array Value)[o]?) ∧ (∀ o, w11.cell? ⟨bM, o, none⟩ = (#[.int .i64 xm.xQ, .slice pm xm.xViews.length cm] : Array Value)[o]?) from ⟨XZ.at.1, XM.at.1⟩)) | (go_at_call 46; have _t := tk1; clear _t tk1; refine Calls.at (F := fun V => Blk V bA 59 #[.int .i64 xa.xQ, .slice pa xa.xViews.length ca] ∧ Blk V bB 59 #[.int .i64 xb.xQ, .slice pb xb.xViews.length cb] ∧ Blk V bS 61 #[.int .i64 RS.xCode, .int .i64 RS.xMirror.xQ, .slice ps RS.xMirror.xViews.length cs] ∧ Blk V bD 61 #[.int .i64 RD.xCode, .int .i64 RD.xMirror.xQ, .slice pd RD.xMirror.xViews.length cd] ∧ Blk V bM 59 #[.int .i64 xm.xQ, .slice pm xm.xViews.length cm] ∧ Blk V bZ 61 #[.int .i64 RZ.xCode, .int .i64 RZ.xMirror.xQ, .slice pz RZ.xMirror.xViews.length cz] ∧ RdMirror V (.agg #[.int .i64 xa.xQ, .slice pa xa.xViews.length ca]) xa ∧ RdMirror V (.agg #[.int .i64 xb.xQ, .slice pb xb.xViews.length cb]) xb ∧ RdMirror V (.agg #[.int .i64 RS.xMirror.xQ, .slice ps RS.xMirror.xViews.length cs]) RS.xMirror ∧ RdMirror V (.agg #[.int .i64 RD.xMirror.xQ, .slice pd RD.xMirror.xViews.length cd]) RD.xMirror ∧ RdMirror V (.agg #[.int .i64 xm.xQ, .slice pm xm.xViews.length cm]) xm ∧ RdMirror V (.agg #[.int .i64 RZ.xMirror.xQ, .slice pz RZ.xMirror.xViews.length cz]) RZ.xMirror ∧ Below w.heap.size w V) ?_ ?_; (first | exact ⟨XA, XB, XS, XD, XM, XZ, rA, rB, rS, rD, rM, rZ, B⟩ | exact ⟨XA.drew, XB.drew, XS.drew, XD.drew, XM.drew, XZ.drew, rA.below (Below.refl _ _).drew, rB.below (Below.refl _ _).drew, rS.below (Below.refl _ _).drew, rD.below (Below.refl _ _).drew, rM.below (Below.refl _ _).drew, rZ.below (Below.refl _ _).drew, B.drew⟩); clear hS XA XB XS XD XM XZ rA rB rS rD rM rZ B; rintro V12 ⟨XA, XB, XS, XD, XM, XZ, rA, rB, rS, rD, rM, rZ, B⟩; refine (KIA _ _ rM).mono ?_; rintro e w12 ⟨rfl, k12⟩; replace XA := XA.keep k12; replace XB := XB.keep k12; replace XS := XS.keep k12; replace XD := XD.keep k12; replace XM := XM.keep k12; replace XZ := XZ.keep k12; replace rA := rA.below k12; replace rB := rB.below k12; replace rS := rS.below k12; replace rD := rD.below k12; replace rM := rM.below k12; replace rZ := rZ.below k12; replace B := B.trans (k12.mono B.size); clear k12; have hS := (show (∀ o, w12.cell? ⟨bZ, o, none⟩ = (#[.int .i64 RZ.xCode, .int .i64 RZ.xMirror.xQ, .slice pz RZ.xMirror.xViews.length cz] : Array Value)[o]?) ∧ (∀ o, w12.cell? ⟨bM, o, none⟩ = (#[.int .i64 xm.xQ, .slice pm xm.xViews.length cm] : Array Value)[o]?) from ⟨XZ.at.1, XM.at.1⟩)) | (go_at_call 45; have _t := tk2; clear _t tk2; refine Calls.at (F := fun V => Blk V bA 59 #[.int .i64 xa.xQ, .slice pa xa.xViews.length ca] ∧ Blk V bB 59 #[.int .i64 xb.xQ, .slice pb xb.xViews.length cb] ∧ Blk V bS 61 #[.int .i64 RS.xCode, .int .i64 RS.xMirror.xQ, .slice ps RS.xMirror.xViews.length cs] ∧ Blk V bD 61 #[.int .i64 RD.xCode, .int .i64 RD.xMirror.xQ, .slice pd RD.xMirror.xViews.length cd] ∧ Blk V bM 59 #[.int .i64 xm.xQ, .slice pm xm.xViews.length cm] ∧ Blk V bZ 61 #[.int .i64 RZ.xCode, .int .i64 RZ.xMirror.xQ, .slice pz RZ.xMirror.xViews.length cz] ∧ RdMirror V (.agg #[.int .i64 xa.xQ, .slice pa xa.xViews.length ca]) xa ∧ RdMirror V (.agg #[.int .i64 xb.xQ, .slice pb xb.xViews.length cb]) xb ∧ RdMirror V (.agg #[.int .i64 RS.xMirror.xQ, .slice ps RS.xMirror.xViews.length cs]) RS.xMirror ∧ RdMirror V (.agg #[.int .i64 RD.xMirror.xQ, .slice pd RD.xMirror.xViews.length cd]) RD.xMirror ∧ RdMirror V (.agg #[.int .i64 xm.xQ, .slice pm xm.xViews.length cm]) xm ∧ RdMirror V (.agg #[.int .i64 RZ.xMirror.xQ, .slice pz RZ.xMirror.xViews.length cz]) RZ.xMirror ∧ Below w.heap.size w V) ?_ ?_; (first | exact ⟨XA, XB, XS, XD, XM, XZ, rA, rB, rS, rD, rM, rZ, B⟩ | exact ⟨XA.drew, XB.drew, XS.drew, XD.drew, XM.drew, XZ.drew, rA.below (Below.refl _ _).drew, rB.below (Below.refl _ _).drew, rS.below (Below.refl _ _).drew, rD.below (Below.refl _ _).drew, rM.below (Below.refl _ _).drew, rZ.below (Below.refl _ _).drew, B.drew⟩); clear hS XA XB XS XD XM XZ rA rB rS rD rM rZ B; rintro V13 ⟨XA, XB, XS, XD, XM, XZ, rA, rB, rS, rD, rM, rZ, B⟩; refine (KVZ _ _ rZ).mono ?_; rintro e w13 ⟨u, rfl, hu, k13⟩; unfold RdIntResult at hu; subst hu; dsimp only; replace XA := XA.keep k13; replace XB := XB.keep k13; replace XS := XS.keep k13; replace XD := XD.keep k13; replace XM := XM.keep k13; replace XZ := XZ.keep k13; replace rA := rA.below k13; replace rB := rB.below k13; replace rS := rS.below k13; replace rD := rD.below k13; replace rM := rM.below k13; replace rZ := rZ.below k13; replace B := B.trans (k13.mono B.size); clear k13; have hS := (show (∀ o, w13.cell? ⟨bZ, o, none⟩ = (#[.int .i64 RZ.xCode, .int .i64 RZ.xMirror.xQ, .slice pz RZ.xMirror.xViews.length cz] : Array Value)[o]?) ∧ (∀ o, w13.cell? ⟨bM, o, none⟩ = (#[.int .i64 xm.xQ, .slice pm xm.xViews.length cm] : Array Value)[o]?) from ⟨XZ.at.1, XM.at.1⟩)) | (go_at_call 45; have _t := tk3; clear _t tk3; refine Calls.at (F := fun V => Blk V bA 59 #[.int .i64 xa.xQ, .slice pa xa.xViews.length ca] ∧ Blk V bB 59 #[.int .i64 xb.xQ, .slice pb xb.xViews.length cb] ∧ Blk V bS 61 #[.int .i64 RS.xCode, .int .i64 RS.xMirror.xQ, .slice ps RS.xMirror.xViews.length cs] ∧ Blk V bD 61 #[.int .i64 RD.xCode, .int .i64 RD.xMirror.xQ, .slice pd RD.xMirror.xViews.length cd] ∧ Blk V bM 59 #[.int .i64 xm.xQ, .slice pm xm.xViews.length cm] ∧ Blk V bZ 61 #[.int .i64 RZ.xCode, .int .i64 RZ.xMirror.xQ, .slice pz RZ.xMirror.xViews.length cz] ∧ RdMirror V (.agg #[.int .i64 xa.xQ, .slice pa xa.xViews.length ca]) xa ∧ RdMirror V (.agg #[.int .i64 xb.xQ, .slice pb xb.xViews.length cb]) xb ∧ RdMirror V (.agg #[.int .i64 RS.xMirror.xQ, .slice ps RS.xMirror.xViews.length cs]) RS.xMirror ∧ RdMirror V (.agg #[.int .i64 RD.xMirror.xQ, .slice pd RD.xMirror.xViews.length cd]) RD.xMirror ∧ RdMirror V (.agg #[.int .i64 xm.xQ, .slice pm xm.xViews.length cm]) xm ∧ RdMirror V (.agg #[.int .i64 RZ.xMirror.xQ, .slice pz RZ.xMirror.xViews.length cz]) RZ.xMirror ∧ Below w.heap.size w V) ?_ ?_; (first | exact ⟨XA, XB, XS, XD, XM, XZ, rA, rB, rS, rD, rM, rZ, B⟩ | exact ⟨XA.drew, XB.drew, XS.drew, XD.drew, XM.drew, XZ.drew, rA.below (Below.refl _ _).drew, rB.below (Below.refl _ _).drew, rS.below (Below.refl _ _).drew, rD.below (Below.refl _ _).drew, rM.below (Below.refl _ _).drew, rZ.below (Below.refl _ _).drew, B.drew⟩); clear hS XA XB XS XD XM XZ rA rB rS rD rM rZ B; rintro V14 ⟨XA, XB, XS, XD, XM, XZ, rA, rB, rS, rD, rM, rZ, B⟩; refine (KVM _ _ rM).mono ?_; rintro e w14 ⟨u, rfl, hu, k14⟩; unfold RdIntResult at hu; subst hu; dsimp only; replace XA := XA.keep k14; replace XB := XB.keep k14; replace XS := XS.keep k14; replace XD := XD.keep k14; replace XM := XM.keep k14; replace XZ := XZ.keep k14; replace rA := rA.below k14; replace rB := rB.below k14; replace rS := rS.below k14; replace rD := rD.below k14; replace rM := rM.below k14; replace rZ := rZ.below k14; replace B := B.trans (k14.mono B.size); clear k14; have hS := (show (∀ o, w14.cell? ⟨bZ, o, none⟩ = (#[.int .i64 RZ.xCode, .int .i64 RZ.xMirror.xQ, .slice pz RZ.xMirror.xViews.length cz] : Array Value)[o]?) ∧ (∀ o, w14.cell? ⟨bM, o, none⟩ = (#[.int .i64 xm.xQ, .slice pm xm.xViews.length cm] : Array Value)[o]?) from ⟨XZ.at.1, XM.at.1⟩)) | (go_at_call 16; have _t := tk4; clear _t tk4; refine Calls.at (F := fun V => Blk V bA 59 #[.int .i64 xa.xQ, .slice pa xa.xViews.length ca] ∧ Blk V bB 59 #[.int .i64 xb.xQ, .slice pb xb.xViews.length cb] ∧ Blk V bS 61 #[.int .i64 RS.xCode, .int .i64 RS.xMirror.xQ, .slice ps RS.xMirror.xViews.length cs] ∧ Blk V bD 61 #[.int .i64 RD.xCode, .int .i64 RD.xMirror.xQ, .slice pd RD.xMirror.xViews.length cd] ∧ Blk V bM 59 #[.int .i64 xm.xQ, .slice pm xm.xViews.length cm] ∧ Blk V bZ 61 #[.int .i64 RZ.xCode, .int .i64 RZ.xMirror.xQ, .slice pz RZ.xMirror.xViews.length cz] ∧ RdMirror V (.agg #[.int .i64 xa.xQ, .slice pa xa.xViews.length ca]) xa ∧ RdMirror V (.agg #[.int .i64 xb.xQ, .slice pb xb.xViews.length cb]) xb ∧ RdMirror V (.agg #[.int .i64 RS.xMirror.xQ, .slice ps RS.xMirror.xViews.length cs]) RS.xMirror ∧ RdMirror V (.agg #[.int .i64 RD.xMirror.xQ, .slice pd RD.xMirror.xViews.length cd]) RD.xMirror ∧ RdMirror V (.agg #[.int .i64 xm.xQ, .slice pm xm.xViews.length cm]) xm ∧ RdMirror V (.agg #[.int .i64 RZ.xMirror.xQ, .slice pz RZ.xMirror.xViews.length cz]) RZ.xMirror ∧ Below w.heap.size w V) ?_ ?_; (first | exact ⟨XA, XB, XS, XD, XM, XZ, rA, rB, rS, rD, rM, rZ, B⟩ | exact ⟨XA.drew, XB.drew, XS.drew, XD.drew, XM.drew, XZ.drew, rA.below (Below.refl _ _).drew, rB.below (Below.refl _ _).drew, rS.below (Below.refl _ _).drew, rD.below (Below.refl _ _).drew, rM.below (Below.refl _ _).drew, rZ.below (Below.refl _ _).drew, B.drew⟩); clear hS XA XB XS XD XM XZ rA rB rS rD rM rZ B; rintro V15 ⟨XA, XB, XS, XD, XM, XZ, rA, rB, rS, rD, rM, rZ, B⟩; refine (lwMod_at _ _ _ (by omega) q2).mono ?_; rintro e w15 ⟨rfl, rfl⟩; have hS := (show (∀ o, V15.cell? ⟨bZ, o, none⟩ = (#[.int .i64 RZ.xCode, .int .i64 RZ.xMirror.xQ, .slice pz RZ.xMirror.xViews.length cz] : Array Value)[o]?) ∧ (∀ o, V15.cell? ⟨bM, o, none⟩ = (#[.int .i64 xm.xQ, .slice pm xm.xViews.length cm] : Array Value)[o]?) from ⟨XZ.at.1, XM.at.1⟩)))
            clear hS
            go_wp2
            go_meet
            case rel => exact ⟨by simp, XA, XB, XS, XD, XM, XZ, rA, rB, rS, rD, rM, rZ, B⟩
      · as_aux_lemma =>
          have hne : (RZ.xCode == 0) = false := by simpa using hc
          clear hc
          refine wp_region_held (S := fun V => (∀ o, V.cell? ⟨bZ, o, none⟩ = (#[.int .i64 RZ.xCode, .int .i64 RZ.xMirror.xQ, .slice pz RZ.xMirror.xViews.length cz] : Array Value)[o]?) ∧ (∀ o, V.cell? ⟨bM, o, none⟩ = (#[.int .i64 xm.xQ, .slice pm xm.xViews.length cm] : Array Value)[o]?)) (by kernel_rfl) ?_
          try (change wpAnyH _ _ _ _ _ _ _ _ (World.drew _))
          replace XA := XA.drew
          replace XB := XB.drew
          replace XS := XS.drew
          replace XD := XD.drew
          replace XM := XM.drew
          replace XZ := XZ.drew
          replace rA := rA.below (Below.refl _ _).drew
          replace rB := rB.below (Below.refl _ _).drew
          replace rS := rS.below (Below.refl _ _).drew
          replace rD := rD.below (Below.refl _ _).drew
          replace rM := rM.below (Below.refl _ _).drew
          replace rZ := rZ.below (Below.refl _ _).drew
          replace B := B.drew
          have hS : (∀ o, W8.drew.cell? ⟨bZ, o, none⟩ = (#[.int .i64 RZ.xCode, .int .i64 RZ.xMirror.xQ, .slice pz RZ.xMirror.xViews.length cz] : Array Value)[o]?) ∧ (∀ o, W8.drew.cell? ⟨bM, o, none⟩ = (#[.int .i64 xm.xQ, .slice pm xm.xViews.length cm] : Array Value)[o]?) := ⟨XZ.at.1, XM.at.1⟩
          refine wpAnyH_take (i := 0) (v := ?vn17) rfl (by kernel_rfl) (by kernel_rfl) (by kernel_rfl) (fun _ _ _ h => h) (Or.inl ⟨by rfl, ?hn17⟩) hS ?rn17
          case hn17 => intro w' hSw; go_simp; (try with_reducible rfl)
          (try simp only [List.getElem_toArray]); (try simp only [List.getElem_cons_succ]); (try simp only [List.getElem_cons_zero]); (try simp only [Act.put]); (try simp only [List.setIfInBounds_toArray]); (try simp only [List.set_cons_succ]); (try simp only [List.set_cons_zero])
          refine wpAnyH_take (i := 1) (v := ?vn18) rfl (by kernel_rfl) (by kernel_rfl) (by kernel_rfl) (fun _ _ _ h => h) (Or.inl ⟨by rfl, ?hn18⟩) hS ?rn18
          case hn18 => intro w' hSw; go_simp; (try with_reducible rfl)
          (try simp only [List.getElem_toArray]); (try simp only [List.getElem_cons_succ]); (try simp only [List.getElem_cons_zero]); (try simp only [Act.put]); (try simp only [List.setIfInBounds_toArray]); (try simp only [List.set_cons_succ]); (try simp only [List.set_cons_zero])
          refine wpAnyH_take (i := 2) (v := ?vn19) rfl (by kernel_rfl) (by kernel_rfl) (by kernel_rfl) (fun _ _ _ h => h) (Or.inl ⟨by rfl, ?hn19⟩) hS ?rn19
          case hn19 => intro w' hSw; go_simp; (try with_reducible rfl)
          (try simp only [List.getElem_toArray]); (try simp only [List.getElem_cons_succ]); (try simp only [List.getElem_cons_zero]); (try simp only [Act.put]); (try simp only [List.setIfInBounds_toArray]); (try simp only [List.set_cons_succ]); (try simp only [List.set_cons_zero])
          refine wpAnyH_take (i := 3) (v := ?vn20) rfl (by kernel_rfl) (by kernel_rfl) (by kernel_rfl) (fun _ _ _ h => h) (Or.inl ⟨by rfl, ?hn20⟩) hS ?rn20
          case hn20 => intro w' hSw; go_simp; (try with_reducible rfl)
          (try simp only [List.getElem_toArray]); (try simp only [List.getElem_cons_succ]); (try simp only [List.getElem_cons_zero]); (try simp only [Act.put]); (try simp only [List.setIfInBounds_toArray]); (try simp only [List.set_cons_succ]); (try simp only [List.set_cons_zero])
          refine wpAnyH_ready (rs := [4]) (by kernel_rfl) (by simp) ?_
          refine AllReadyH.cons (o := _) rfl (fun K hK => ?_) AllReadyH.nil
          rw [if_pos (by rfl)]
          go_simp
          go_at_call 56
          clear hS
          refine (KSZ _ _ rM).mono ?_
          rintro e w16 ⟨u, b9, rfl, hT, hf, k16⟩
          obtain ⟨p9, c9, rfl⟩ := hT.shp
          clear hT hf
          replace XA := XA.keep k16
          replace XB := XB.keep k16
          replace XS := XS.keep k16
          replace XD := XD.keep k16
          replace XM := XM.keep k16
          replace XZ := XZ.keep k16
          replace rA := rA.below k16
          replace rB := rB.below k16
          replace rS := rS.below k16
          replace rD := rD.below k16
          replace rM := rM.below k16
          replace rZ := rZ.below k16
          replace B := B.trans (k16.mono B.size)
          clear k16
          (try dsimp only)
          refine hK.out _ _ ⟨XZ.at.1, XM.at.1⟩ (fun hS => ?_)
          clear hK K
          (try simp only [List.getElem_toArray]); (try simp only [List.getElem_cons_succ]); (try simp only [List.getElem_cons_zero]); (try simp only [Act.put]); (try simp only [List.setIfInBounds_toArray]); (try simp only [List.set_cons_succ]); (try simp only [List.set_cons_zero])
          refine wpAnyH_take (i := 5) (v := ?vn21) rfl (by kernel_rfl) (by kernel_rfl) (by kernel_rfl) (fun _ _ _ h => h) (Or.inl ⟨by rfl, ?hn21⟩) hS ?rn21
          case hn21 => intro w' hSw; go_simp; (try with_reducible rfl)
          (try simp only [List.getElem_toArray]); (try simp only [List.getElem_cons_succ]); (try simp only [List.getElem_cons_zero]); (try simp only [Act.put]); (try simp only [List.setIfInBounds_toArray]); (try simp only [List.set_cons_succ]); (try simp only [List.set_cons_zero])
          refine wpAnyH_take (i := 6) (v := ?vn22) rfl (by kernel_rfl) (by kernel_rfl) (by kernel_rfl) (fun _ _ _ h => h) (Or.inl ⟨by rfl, ?hn22⟩) hS ?rn22
          case hn22 => intro w' hSw; go_simp; (try with_reducible rfl)
          (try simp only [List.getElem_toArray]); (try simp only [List.getElem_cons_succ]); (try simp only [List.getElem_cons_zero]); (try simp only [Act.put]); (try simp only [List.setIfInBounds_toArray]); (try simp only [List.set_cons_succ]); (try simp only [List.set_cons_zero])
          refine wpAnyH_take (i := 7) (v := ?vn23) rfl (by kernel_rfl) (by kernel_rfl) (by kernel_rfl) (fun _ _ _ h => h) (Or.inl ⟨by rfl, ?hn23⟩) hS ?rn23
          case hn23 => intro w' hSw; go_simp; (try with_reducible rfl)
          (try simp only [List.getElem_toArray]); (try simp only [List.getElem_cons_succ]); (try simp only [List.getElem_cons_zero]); (try simp only [Act.put]); (try simp only [List.setIfInBounds_toArray]); (try simp only [List.set_cons_succ]); (try simp only [List.set_cons_zero])
          refine wpAnyH_take (i := 8) (v := ?vn24) rfl (by kernel_rfl) (by kernel_rfl) (by kernel_rfl) (fun _ _ _ h => h) (Or.inl ⟨by rfl, ?hn24⟩) hS ?rn24
          case hn24 => intro w' hSw; go_simp; (try with_reducible rfl)
          (try simp only [List.getElem_toArray]); (try simp only [List.getElem_cons_succ]); (try simp only [List.getElem_cons_zero]); (try simp only [Act.put]); (try simp only [List.setIfInBounds_toArray]); (try simp only [List.set_cons_succ]); (try simp only [List.set_cons_zero])
          refine wpAnyH_take (i := 9) (v := ?vn25) rfl (by kernel_rfl) (by kernel_rfl) (by kernel_rfl) (fun _ _ _ h => h) (Or.inl ⟨by rfl, ?hn25⟩) hS ?rn25
          case hn25 => intro w' hSw; go_simp; (try with_reducible rfl)
          (try simp only [List.getElem_toArray]); (try simp only [List.getElem_cons_succ]); (try simp only [List.getElem_cons_zero]); (try simp only [Act.put]); (try simp only [List.setIfInBounds_toArray]); (try simp only [List.set_cons_succ]); (try simp only [List.set_cons_zero])
          refine wpAnyH_take (i := 10) (v := ?vn26) rfl (by kernel_rfl) (by kernel_rfl) (by kernel_rfl) (fun _ _ _ h => h) (Or.inl ⟨by rfl, ?hn26⟩) hS ?rn26
          case hn26 => intro w' hSw; go_simp; (try with_reducible rfl)
          (try simp only [List.getElem_toArray]); (try simp only [List.getElem_cons_succ]); (try simp only [List.getElem_cons_zero]); (try simp only [Act.put]); (try simp only [List.setIfInBounds_toArray]); (try simp only [List.set_cons_succ]); (try simp only [List.set_cons_zero])
          refine wpAnyH_take (i := 11) (v := ?vn27) rfl (by kernel_rfl) (by kernel_rfl) (by kernel_rfl) (fun _ _ _ h => h) (Or.inl ⟨by rfl, ?hn27⟩) hS ?rn27
          case hn27 => intro w' hSw; go_simp; (try with_reducible rfl)
          (try simp only [List.getElem_toArray]); (try simp only [List.getElem_cons_succ]); (try simp only [List.getElem_cons_zero]); (try simp only [Act.put]); (try simp only [List.setIfInBounds_toArray]); (try simp only [List.set_cons_succ]); (try simp only [List.set_cons_zero])
          refine wpAnyH_take (i := 12) (v := undef) rfl (by kernel_rfl) (by kernel_rfl) (by kernel_rfl) (fun _ _ _ h => h) (Or.inr ⟨by rfl, rfl⟩) hS ?_
          (try simp only [List.getElem_toArray]); (try simp only [List.getElem_cons_succ]); (try simp only [List.getElem_cons_zero]); (try simp only [Act.put]); (try simp only [List.setIfInBounds_toArray]); (try simp only [List.set_cons_succ]); (try simp only [List.set_cons_zero])
          refine wpAnyH_take (i := 13) (v := undef) rfl (by kernel_rfl) (by kernel_rfl) (by kernel_rfl) (fun _ _ _ h => h) (Or.inr ⟨by rfl, rfl⟩) hS ?_
          (try simp only [List.getElem_toArray]); (try simp only [List.getElem_cons_succ]); (try simp only [List.getElem_cons_zero]); (try simp only [Act.put]); (try simp only [List.setIfInBounds_toArray]); (try simp only [List.set_cons_succ]); (try simp only [List.set_cons_zero])
          refine wpAnyH_take (i := 14) (v := ?vn28) rfl (by kernel_rfl) (by kernel_rfl) (by kernel_rfl) (fun _ _ _ h => h) (Or.inl ⟨by rfl, ?hn28⟩) hS ?rn28
          case hn28 => intro w' hSw; go_simp; (try with_reducible rfl)
          (try simp only [List.getElem_toArray]); (try simp only [List.getElem_cons_succ]); (try simp only [List.getElem_cons_zero]); (try simp only [Act.put]); (try simp only [List.setIfInBounds_toArray]); (try simp only [List.set_cons_succ]); (try simp only [List.set_cons_zero])
          refine wpAnyH_take (i := 15) (v := ?vn29) rfl (by kernel_rfl) (by kernel_rfl) (by kernel_rfl) (fun _ _ _ h => h) (Or.inl ⟨by rfl, ?hn29⟩) hS ?rn29
          case hn29 => intro w' hSw; go_simp; (try with_reducible rfl)
          (try simp only [List.getElem_toArray]); (try simp only [List.getElem_cons_succ]); (try simp only [List.getElem_cons_zero]); (try simp only [Act.put]); (try simp only [List.setIfInBounds_toArray]); (try simp only [List.set_cons_succ]); (try simp only [List.set_cons_zero])
          refine wpAnyH_take (i := 16) (v := undef) rfl (by kernel_rfl) (by kernel_rfl) (by kernel_rfl) (fun _ _ _ h => h) (Or.inr ⟨by rfl, rfl⟩) hS ?_
          (try simp only [List.getElem_toArray]); (try simp only [List.getElem_cons_succ]); (try simp only [List.getElem_cons_zero]); (try simp only [Act.put]); (try simp only [List.setIfInBounds_toArray]); (try simp only [List.set_cons_succ]); (try simp only [List.set_cons_zero])
          refine wpAnyH_take (i := 17) (v := undef) rfl (by kernel_rfl) (by kernel_rfl) (by kernel_rfl) (fun _ _ _ h => h) (Or.inr ⟨by rfl, rfl⟩) hS ?_
          (try simp only [List.getElem_toArray]); (try simp only [List.getElem_cons_succ]); (try simp only [List.getElem_cons_zero]); (try simp only [Act.put]); (try simp only [List.setIfInBounds_toArray]); (try simp only [List.set_cons_succ]); (try simp only [List.set_cons_zero])
          refine wpAnyH_take (i := 18) (v := undef) rfl (by kernel_rfl) (by kernel_rfl) (by kernel_rfl) (fun _ _ _ h => h) (Or.inr ⟨by rfl, rfl⟩) hS ?_
          (try simp only [List.getElem_toArray]); (try simp only [List.getElem_cons_succ]); (try simp only [List.getElem_cons_zero]); (try simp only [Act.put]); (try simp only [List.setIfInBounds_toArray]); (try simp only [List.set_cons_succ]); (try simp only [List.set_cons_zero])
          refine wpAnyH_take (i := 19) (v := undef) rfl (by kernel_rfl) (by kernel_rfl) (by kernel_rfl) (fun _ _ _ h => h) (Or.inr ⟨by rfl, rfl⟩) hS ?_
          (try simp only [List.getElem_toArray]); (try simp only [List.getElem_cons_succ]); (try simp only [List.getElem_cons_zero]); (try simp only [Act.put]); (try simp only [List.setIfInBounds_toArray]); (try simp only [List.set_cons_succ]); (try simp only [List.set_cons_zero])
          refine wpAnyH_take (i := 20) (v := undef) rfl (by kernel_rfl) (by kernel_rfl) (by kernel_rfl) (fun _ _ _ h => h) (Or.inr ⟨by rfl, rfl⟩) hS ?_
          (try simp only [List.getElem_toArray]); (try simp only [List.getElem_cons_succ]); (try simp only [List.getElem_cons_zero]); (try simp only [Act.put]); (try simp only [List.setIfInBounds_toArray]); (try simp only [List.set_cons_succ]); (try simp only [List.set_cons_zero])
          refine wpAnyH_take (i := 21) (v := undef) rfl (by kernel_rfl) (by kernel_rfl) (by kernel_rfl) (fun _ _ _ h => h) (Or.inr ⟨by rfl, rfl⟩) hS ?_
          (try simp only [List.getElem_toArray]); (try simp only [List.getElem_cons_succ]); (try simp only [List.getElem_cons_zero]); (try simp only [Act.put]); (try simp only [List.setIfInBounds_toArray]); (try simp only [List.set_cons_succ]); (try simp only [List.set_cons_zero])
          refine wpAnyH_take (i := 22) (v := undef) rfl (by kernel_rfl) (by kernel_rfl) (by kernel_rfl) (fun _ _ _ h => h) (Or.inr ⟨by rfl, rfl⟩) hS ?_
          (try simp only [List.getElem_toArray]); (try simp only [List.getElem_cons_succ]); (try simp only [List.getElem_cons_zero]); (try simp only [Act.put]); (try simp only [List.setIfInBounds_toArray]); (try simp only [List.set_cons_succ]); (try simp only [List.set_cons_zero])
          refine wpAnyH_take (i := 23) (v := undef) rfl (by kernel_rfl) (by kernel_rfl) (by kernel_rfl) (fun _ _ _ h => h) (Or.inr ⟨by rfl, rfl⟩) hS ?_
          (try simp only [List.getElem_toArray]); (try simp only [List.getElem_cons_succ]); (try simp only [List.getElem_cons_zero]); (try simp only [Act.put]); (try simp only [List.setIfInBounds_toArray]); (try simp only [List.set_cons_succ]); (try simp only [List.set_cons_zero])
          refine wpAnyH_take (i := 24) (v := undef) rfl (by kernel_rfl) (by kernel_rfl) (by kernel_rfl) (fun _ _ _ h => h) (Or.inr ⟨by rfl, rfl⟩) hS ?_
          (try simp only [List.getElem_toArray]); (try simp only [List.getElem_cons_succ]); (try simp only [List.getElem_cons_zero]); (try simp only [Act.put]); (try simp only [List.setIfInBounds_toArray]); (try simp only [List.set_cons_succ]); (try simp only [List.set_cons_zero])
          refine wpAnyH_take (i := 25) (v := undef) rfl (by kernel_rfl) (by kernel_rfl) (by kernel_rfl) (fun _ _ _ h => h) (Or.inr ⟨by rfl, rfl⟩) hS ?_
          (try simp only [List.getElem_toArray]); (try simp only [List.getElem_cons_succ]); (try simp only [List.getElem_cons_zero]); (try simp only [Act.put]); (try simp only [List.setIfInBounds_toArray]); (try simp only [List.set_cons_succ]); (try simp only [List.set_cons_zero])
          refine wpAnyH_take (i := 26) (v := undef) rfl (by kernel_rfl) (by kernel_rfl) (by kernel_rfl) (fun _ _ _ h => h) (Or.inr ⟨by rfl, rfl⟩) hS ?_
          (try simp only [List.getElem_toArray]); (try simp only [List.getElem_cons_succ]); (try simp only [List.getElem_cons_zero]); (try simp only [Act.put]); (try simp only [List.setIfInBounds_toArray]); (try simp only [List.set_cons_succ]); (try simp only [List.set_cons_zero])
          refine wpAnyH_take (i := 27) (v := undef) rfl (by kernel_rfl) (by kernel_rfl) (by kernel_rfl) (fun _ _ _ h => h) (Or.inr ⟨by rfl, rfl⟩) hS ?_
          (try simp only [List.getElem_toArray]); (try simp only [List.getElem_cons_succ]); (try simp only [List.getElem_cons_zero]); (try simp only [Act.put]); (try simp only [List.setIfInBounds_toArray]); (try simp only [List.set_cons_succ]); (try simp only [List.set_cons_zero])
          refine wpAnyH_take (i := 28) (v := undef) rfl (by kernel_rfl) (by kernel_rfl) (by kernel_rfl) (fun _ _ _ h => h) (Or.inr ⟨by rfl, rfl⟩) hS ?_
          (try simp only [List.getElem_toArray]); (try simp only [List.getElem_cons_succ]); (try simp only [List.getElem_cons_zero]); (try simp only [Act.put]); (try simp only [List.setIfInBounds_toArray]); (try simp only [List.set_cons_succ]); (try simp only [List.set_cons_zero])
          refine wpAnyH_take (i := 29) (v := ?vn30) rfl (by kernel_rfl) (by kernel_rfl) (by kernel_rfl) (fun _ _ _ h => h) (Or.inl ⟨by rfl, ?hn30⟩) hS ?rn30
          case hn30 => intro w' hSw; go_simp; (try with_reducible rfl)
          (try simp only [List.getElem_toArray]); (try simp only [List.getElem_cons_succ]); (try simp only [List.getElem_cons_zero]); (try simp only [Act.put]); (try simp only [List.setIfInBounds_toArray]); (try simp only [List.set_cons_succ]); (try simp only [List.set_cons_zero])
          refine wpAnyH_take (i := 30) (v := ?vn31) rfl (by kernel_rfl) (by kernel_rfl) (by kernel_rfl) (fun _ _ _ h => h) (Or.inl ⟨by rfl, ?hn31⟩) hS ?rn31
          case hn31 => intro w' hSw; go_simp; (try with_reducible rfl)
          (try simp only [List.getElem_toArray]); (try simp only [List.getElem_cons_succ]); (try simp only [List.getElem_cons_zero]); (try simp only [Act.put]); (try simp only [List.setIfInBounds_toArray]); (try simp only [List.set_cons_succ]); (try simp only [List.set_cons_zero])
          refine wpAnyH_done (by kernel_rfl) ?_ _
          clear hS
          go_wp2
          go_meet
          case rel => exact ⟨by simp, XA, XB, XS, XD, XM, XZ, rA, rB, rS, rD, rM, rZ, B⟩
    case rest =>
      clear XA XB XS XD XM XZ rA rB rS rD rM rZ B KSZ
      obtain ⟨rfl, XA, XB, XS, XD, XM, XZ, rA, rB, rS, rD, rM, rZ, B⟩ := hcut
      go_wp2_with fail
      refine Calls.at (F := fun V => Blk V bA 59 #[.int .i64 xa.xQ, .slice pa xa.xViews.length ca] ∧ Blk V bB 59 #[.int .i64 xb.xQ, .slice pb xb.xViews.length cb] ∧ Blk V bS 61 #[.int .i64 RS.xCode, .int .i64 RS.xMirror.xQ, .slice ps RS.xMirror.xViews.length cs] ∧ Blk V bD 61 #[.int .i64 RD.xCode, .int .i64 RD.xMirror.xQ, .slice pd RD.xMirror.xViews.length cd] ∧ Blk V bM 59 #[.int .i64 xm.xQ, .slice pm xm.xViews.length cm] ∧ Blk V bZ 61 #[.int .i64 RZ.xCode, .int .i64 RZ.xMirror.xQ, .slice pz RZ.xMirror.xViews.length cz] ∧ RdMirror V (.agg #[.int .i64 xa.xQ, .slice pa xa.xViews.length ca]) xa ∧ RdMirror V (.agg #[.int .i64 xb.xQ, .slice pb xb.xViews.length cb]) xb ∧ RdMirror V (.agg #[.int .i64 RS.xMirror.xQ, .slice ps RS.xMirror.xViews.length cs]) RS.xMirror ∧ RdMirror V (.agg #[.int .i64 RD.xMirror.xQ, .slice pd RD.xMirror.xViews.length cd]) RD.xMirror ∧ RdMirror V (.agg #[.int .i64 xm.xQ, .slice pm xm.xViews.length cm]) xm ∧ RdMirror V (.agg #[.int .i64 RZ.xMirror.xQ, .slice pz RZ.xMirror.xViews.length cz]) RZ.xMirror ∧ Below w.heap.size w V) ⟨XA, XB, XS, XD, XM, XZ, rA, rB, rS, rD, rM, rZ, B⟩ ?_
      clear XA XB XS XD XM XZ rA rB rS rD rM rZ B
      rintro V17 ⟨XA, XB, XS, XD, XM, XZ, rA, rB, rS, rD, rM, rZ, B⟩
      refine (spec_DrawPlainMirror a0 cap0 zs _ (HR0.out.below B) hl' hby).mono ?_
      rintro e w18 ⟨qq, vv, rfl, k18⟩
      replace XA := XA.keep k18
      replace XB := XB.keep k18
      replace XS := XS.keep k18
      replace XD := XD.keep k18
      replace XM := XM.keep k18
      replace XZ := XZ.keep k18
      replace rA := rA.below k18
      replace rB := rB.below k18
      replace rS := rS.below k18
      replace rD := rD.below k18
      replace rM := rM.below k18
      replace rZ := rZ.below k18
      replace B := B.trans (k18.mono B.size)
      clear k18
      have KIP := fun V => impl_PlainMirror qq vv V
      have KSP := fun V => spec_PlainMirror qq vv V
      obtain ⟨RP, hRP⟩ : ∃ R, R = mirrorOfR qq [vv, 0, 0, 0] := ⟨_, rfl⟩
      have HRP : Hid (RP = mirrorOfR qq [vv, 0, 0, 0]) := hRP
      rw [← hRP] at KIP KSP
      clear hRP
      go_wp2_with fail
      refine Calls.at (F := fun V => Blk V bA 59 #[.int .i64 xa.xQ, .slice pa xa.xViews.length ca] ∧ Blk V bB 59 #[.int .i64 xb.xQ, .slice pb xb.xViews.length cb] ∧ Blk V bS 61 #[.int .i64 RS.xCode, .int .i64 RS.xMirror.xQ, .slice ps RS.xMirror.xViews.length cs] ∧ Blk V bD 61 #[.int .i64 RD.xCode, .int .i64 RD.xMirror.xQ, .slice pd RD.xMirror.xViews.length cd] ∧ Blk V bM 59 #[.int .i64 xm.xQ, .slice pm xm.xViews.length cm] ∧ Blk V bZ 61 #[.int .i64 RZ.xCode, .int .i64 RZ.xMirror.xQ, .slice pz RZ.xMirror.xViews.length cz] ∧ RdMirror V (.agg #[.int .i64 xa.xQ, .slice pa xa.xViews.length ca]) xa ∧ RdMirror V (.agg #[.int .i64 xb.xQ, .slice pb xb.xViews.length cb]) xb ∧ RdMirror V (.agg #[.int .i64 RS.xMirror.xQ, .slice ps RS.xMirror.xViews.length cs]) RS.xMirror ∧ RdMirror V (.agg #[.int .i64 RD.xMirror.xQ, .slice pd RD.xMirror.xViews.length cd]) RD.xMirror ∧ RdMirror V (.agg #[.int .i64 xm.xQ, .slice pm xm.xViews.length cm]) xm ∧ RdMirror V (.agg #[.int .i64 RZ.xMirror.xQ, .slice pz RZ.xMirror.xViews.length cz]) RZ.xMirror ∧ Below w.heap.size w V) ⟨XA, XB, XS, XD, XM, XZ, rA, rB, rS, rD, rM, rZ, B⟩ ?_
      clear XA XB XS XD XM XZ rA rB rS rD rM rZ B
      rintro V19 ⟨XA, XB, XS, XD, XM, XZ, rA, rB, rS, rD, rM, rZ, B⟩
      refine (KIP _).mono ?_
      rintro e w20 ⟨u, b9, rfl, hT, hf, k20⟩
      obtain ⟨pp, cp, rfl, hM⟩ := hT
      replace XA := XA.keep k20
      replace XB := XB.keep k20
      replace XS := XS.keep k20
      replace XD := XD.keep k20
      replace XM := XM.keep k20
      replace XZ := XZ.keep k20
      replace rA := rA.below k20
      replace rB := rB.below k20
      replace rS := rS.below k20
      replace rD := rD.below k20
      replace rM := rM.below k20
      replace rZ := rZ.below k20
      replace B := B.trans (k20.mono B.size)
      have rP : RdMirror w20 (.agg #[.int .i64 RP.xMirror.xQ, .slice pp RP.xMirror.xViews.length cp]) RP.xMirror := ⟨pp, cp, rfl, hM.reads⟩
      replace XA := XA.alloc (.cells #[.int .i64 RP.xCode, .int .i64 RP.xMirror.xQ, .slice pp RP.xMirror.xViews.length cp] 61)
      replace XB := XB.alloc (.cells #[.int .i64 RP.xCode, .int .i64 RP.xMirror.xQ, .slice pp RP.xMirror.xViews.length cp] 61)
      replace XS := XS.alloc (.cells #[.int .i64 RP.xCode, .int .i64 RP.xMirror.xQ, .slice pp RP.xMirror.xViews.length cp] 61)
      replace XD := XD.alloc (.cells #[.int .i64 RP.xCode, .int .i64 RP.xMirror.xQ, .slice pp RP.xMirror.xViews.length cp] 61)
      replace XM := XM.alloc (.cells #[.int .i64 RP.xCode, .int .i64 RP.xMirror.xQ, .slice pp RP.xMirror.xViews.length cp] 61)
      replace XZ := XZ.alloc (.cells #[.int .i64 RP.xCode, .int .i64 RP.xMirror.xQ, .slice pp RP.xMirror.xViews.length cp] 61)
      replace rA := rA.below ((Below.refl _ _).alloc (Nat.le_refl _) (.cells #[.int .i64 RP.xCode, .int .i64 RP.xMirror.xQ, .slice pp RP.xMirror.xViews.length cp] 61))
      replace rB := rB.below ((Below.refl _ _).alloc (Nat.le_refl _) (.cells #[.int .i64 RP.xCode, .int .i64 RP.xMirror.xQ, .slice pp RP.xMirror.xViews.length cp] 61))
      replace rS := rS.below ((Below.refl _ _).alloc (Nat.le_refl _) (.cells #[.int .i64 RP.xCode, .int .i64 RP.xMirror.xQ, .slice pp RP.xMirror.xViews.length cp] 61))
      replace rD := rD.below ((Below.refl _ _).alloc (Nat.le_refl _) (.cells #[.int .i64 RP.xCode, .int .i64 RP.xMirror.xQ, .slice pp RP.xMirror.xViews.length cp] 61))
      replace rM := rM.below ((Below.refl _ _).alloc (Nat.le_refl _) (.cells #[.int .i64 RP.xCode, .int .i64 RP.xMirror.xQ, .slice pp RP.xMirror.xViews.length cp] 61))
      replace rZ := rZ.below ((Below.refl _ _).alloc (Nat.le_refl _) (.cells #[.int .i64 RP.xCode, .int .i64 RP.xMirror.xQ, .slice pp RP.xMirror.xViews.length cp] 61))
      replace rP := rP.below ((Below.refl _ _).alloc (Nat.le_refl _) (.cells #[.int .i64 RP.xCode, .int .i64 RP.xMirror.xQ, .slice pp RP.xMirror.xViews.length cp] 61))
      replace B := B.alloc B.size (.cells #[.int .i64 RP.xCode, .int .i64 RP.xMirror.xQ, .slice pp RP.xMirror.xViews.length cp] 61)
      have XP := Blk.new w20 61 #[.int .i64 RP.xCode, .int .i64 RP.xMirror.xQ, .slice pp RP.xMirror.xViews.length cp]
      clear hM hf k20
      go_wp2_with fail
      generalize hgP : w20.heap.size = bP at *
      clear hgP KIP
      obtain ⟨W12, hW12⟩ : ∃ x, x = (w20.alloc (.cells #[.int .i64 RP.xCode, .int .i64 RP.xMirror.xQ, .slice pp RP.xMirror.xViews.length cp] 61)) := ⟨_, rfl⟩
      rw [← hW12] at XA XB XS XD XM XZ XP rA rB rS rD rM rZ rP B ⊢
      clear hW12
      go_cut [101] from 15 (fun s wr => s = .bool false ∧ Blk wr bA 59 #[.int .i64 xa.xQ, .slice pa xa.xViews.length ca] ∧ Blk wr bB 59 #[.int .i64 xb.xQ, .slice pb xb.xViews.length cb] ∧ Blk wr bS 61 #[.int .i64 RS.xCode, .int .i64 RS.xMirror.xQ, .slice ps RS.xMirror.xViews.length cs] ∧ Blk wr bD 61 #[.int .i64 RD.xCode, .int .i64 RD.xMirror.xQ, .slice pd RD.xMirror.xViews.length cd] ∧ Blk wr bM 59 #[.int .i64 xm.xQ, .slice pm xm.xViews.length cm] ∧ Blk wr bZ 61 #[.int .i64 RZ.xCode, .int .i64 RZ.xMirror.xQ, .slice pz RZ.xMirror.xViews.length cz] ∧ Blk wr bP 61 #[.int .i64 RP.xCode, .int .i64 RP.xMirror.xQ, .slice pp RP.xMirror.xViews.length cp] ∧ RdMirror wr (.agg #[.int .i64 xa.xQ, .slice pa xa.xViews.length ca]) xa ∧ RdMirror wr (.agg #[.int .i64 xb.xQ, .slice pb xb.xViews.length cb]) xb ∧ RdMirror wr (.agg #[.int .i64 RS.xMirror.xQ, .slice ps RS.xMirror.xViews.length cs]) RS.xMirror ∧ RdMirror wr (.agg #[.int .i64 RD.xMirror.xQ, .slice pd RD.xMirror.xViews.length cd]) RD.xMirror ∧ RdMirror wr (.agg #[.int .i64 xm.xQ, .slice pm xm.xViews.length cm]) xm ∧ RdMirror wr (.agg #[.int .i64 RZ.xMirror.xQ, .slice pz RZ.xMirror.xViews.length cz]) RZ.xMirror ∧ RdMirror wr (.agg #[.int .i64 RP.xMirror.xQ, .slice pp RP.xMirror.xViews.length cp]) RP.xMirror ∧ Below w.heap.size w wr)
      case first =>
        by_cases hc : RP.xCode = 0
        · as_aux_lemma =>
            have hcp : (mirrorOfR qq [vv, 0, 0, 0]).xCode = 0 := by rw [← HRP.out]; exact hc
            obtain ⟨hq, h4, hok⟩ := mirrorOfR_code hcp
            have hv := (okV_iff qq [vv, 0, 0, 0]).1 hok 0 (by simp)
            simp at hv
            have hVP : valueR RP.xMirror.xQ RP.xMirror.xViews (-1) = ⟨0, vv⟩ := by
              rw [HRP.out, mirrorOfR_ok hq h4 hok]
              dsimp only
              rw [value_mirRows (-1) hq h4 hok rfl]
              simp [sum4, Int.emod_eq_of_lt hv.1 hv.2]
            have KVP := fun u V h => impl_ValueOf u RP.xMirror (-1) V h
            rw [hVP] at KVP
            (try dsimp only at KVP)
            clear hVP hq h4 hok hv hcp
            have hS := XP.at.1
            have tk0 : Hid True := trivial
            have tk1 : Hid True := trivial
            have tk2 : Hid True := trivial
            go_region_held3 (fun V => (∀ o, V.cell? ⟨bP, o, none⟩ = (#[.int .i64 RP.xCode, .int .i64 RP.xMirror.xQ, .slice pp RP.xMirror.xViews.length cp] : Array Value)[o]?)) (exact hS) (first | (go_at_call 59; have _t := tk0; clear _t tk0; refine Calls.at (F := fun V => Blk V bA 59 #[.int .i64 xa.xQ, .slice pa xa.xViews.length ca] ∧ Blk V bB 59 #[.int .i64 xb.xQ, .slice pb xb.xViews.length cb] ∧ Blk V bS 61 #[.int .i64 RS.xCode, .int .i64 RS.xMirror.xQ, .slice ps RS.xMirror.xViews.length cs] ∧ Blk V bD 61 #[.int .i64 RD.xCode, .int .i64 RD.xMirror.xQ, .slice pd RD.xMirror.xViews.length cd] ∧ Blk V bM 59 #[.int .i64 xm.xQ, .slice pm xm.xViews.length cm] ∧ Blk V bZ 61 #[.int .i64 RZ.xCode, .int .i64 RZ.xMirror.xQ, .slice pz RZ.xMirror.xViews.length cz] ∧ Blk V bP 61 #[.int .i64 RP.xCode, .int .i64 RP.xMirror.xQ, .slice pp RP.xMirror.xViews.length cp] ∧ RdMirror V (.agg #[.int .i64 xa.xQ, .slice pa xa.xViews.length ca]) xa ∧ RdMirror V (.agg #[.int .i64 xb.xQ, .slice pb xb.xViews.length cb]) xb ∧ RdMirror V (.agg #[.int .i64 RS.xMirror.xQ, .slice ps RS.xMirror.xViews.length cs]) RS.xMirror ∧ RdMirror V (.agg #[.int .i64 RD.xMirror.xQ, .slice pd RD.xMirror.xViews.length cd]) RD.xMirror ∧ RdMirror V (.agg #[.int .i64 xm.xQ, .slice pm xm.xViews.length cm]) xm ∧ RdMirror V (.agg #[.int .i64 RZ.xMirror.xQ, .slice pz RZ.xMirror.xViews.length cz]) RZ.xMirror ∧ RdMirror V (.agg #[.int .i64 RP.xMirror.xQ, .slice pp RP.xMirror.xViews.length cp]) RP.xMirror ∧ Below w.heap.size w V) ?_ ?_; (first | exact ⟨XA, XB, XS, XD, XM, XZ, XP, rA, rB, rS, rD, rM, rZ, rP, B⟩ | exact ⟨XA.drew, XB.drew, XS.drew, XD.drew, XM.drew, XZ.drew, XP.drew, rA.below (Below.refl _ _).drew, rB.below (Below.refl _ _).drew, rS.below (Below.refl _ _).drew, rD.below (Below.refl _ _).drew, rM.below (Below.refl _ _).drew, rZ.below (Below.refl _ _).drew, rP.below (Below.refl _ _).drew, B.drew⟩); clear hS XA XB XS XD XM XZ XP rA rB rS rD rM rZ rP B; rintro V21 ⟨XA, XB, XS, XD, XM, XZ, XP, rA, rB, rS, rD, rM, rZ, rP, B⟩; refine (KSP _).mono ?_; rintro e w21 ⟨u, b9, rfl, hT, hf, k21⟩; obtain ⟨p9, c9, rfl⟩ := hT.shp; clear hT hf; replace XA := XA.keep k21; replace XB := XB.keep k21; replace XS := XS.keep k21; replace XD := XD.keep k21; replace XM := XM.keep k21; replace XZ := XZ.keep k21; replace XP := XP.keep k21; replace rA := rA.below k21; replace rB := rB.below k21; replace rS := rS.below k21; replace rD := rD.below k21; replace rM := rM.below k21; replace rZ := rZ.below k21; replace rP := rP.below k21; replace B := B.trans (k21.mono B.size); clear k21; have hS := (show (∀ o, w21.cell? ⟨bP, o, none⟩ = (#[.int .i64 RP.xCode, .int .i64 RP.xMirror.xQ, .slice pp RP.xMirror.xViews.length cp] : Array Value)[o]?) from XP.at.1)) | (go_at_call 45; have _t := tk1; clear _t tk1; refine Calls.at (F := fun V => Blk V bA 59 #[.int .i64 xa.xQ, .slice pa xa.xViews.length ca] ∧ Blk V bB 59 #[.int .i64 xb.xQ, .slice pb xb.xViews.length cb] ∧ Blk V bS 61 #[.int .i64 RS.xCode, .int .i64 RS.xMirror.xQ, .slice ps RS.xMirror.xViews.length cs] ∧ Blk V bD 61 #[.int .i64 RD.xCode, .int .i64 RD.xMirror.xQ, .slice pd RD.xMirror.xViews.length cd] ∧ Blk V bM 59 #[.int .i64 xm.xQ, .slice pm xm.xViews.length cm] ∧ Blk V bZ 61 #[.int .i64 RZ.xCode, .int .i64 RZ.xMirror.xQ, .slice pz RZ.xMirror.xViews.length cz] ∧ Blk V bP 61 #[.int .i64 RP.xCode, .int .i64 RP.xMirror.xQ, .slice pp RP.xMirror.xViews.length cp] ∧ RdMirror V (.agg #[.int .i64 xa.xQ, .slice pa xa.xViews.length ca]) xa ∧ RdMirror V (.agg #[.int .i64 xb.xQ, .slice pb xb.xViews.length cb]) xb ∧ RdMirror V (.agg #[.int .i64 RS.xMirror.xQ, .slice ps RS.xMirror.xViews.length cs]) RS.xMirror ∧ RdMirror V (.agg #[.int .i64 RD.xMirror.xQ, .slice pd RD.xMirror.xViews.length cd]) RD.xMirror ∧ RdMirror V (.agg #[.int .i64 xm.xQ, .slice pm xm.xViews.length cm]) xm ∧ RdMirror V (.agg #[.int .i64 RZ.xMirror.xQ, .slice pz RZ.xMirror.xViews.length cz]) RZ.xMirror ∧ RdMirror V (.agg #[.int .i64 RP.xMirror.xQ, .slice pp RP.xMirror.xViews.length cp]) RP.xMirror ∧ Below w.heap.size w V) ?_ ?_; (first | exact ⟨XA, XB, XS, XD, XM, XZ, XP, rA, rB, rS, rD, rM, rZ, rP, B⟩ | exact ⟨XA.drew, XB.drew, XS.drew, XD.drew, XM.drew, XZ.drew, XP.drew, rA.below (Below.refl _ _).drew, rB.below (Below.refl _ _).drew, rS.below (Below.refl _ _).drew, rD.below (Below.refl _ _).drew, rM.below (Below.refl _ _).drew, rZ.below (Below.refl _ _).drew, rP.below (Below.refl _ _).drew, B.drew⟩); clear hS XA XB XS XD XM XZ XP rA rB rS rD rM rZ rP B; rintro V22 ⟨XA, XB, XS, XD, XM, XZ, XP, rA, rB, rS, rD, rM, rZ, rP, B⟩; refine (KVP _ _ rP).mono ?_; rintro e w22 ⟨u, rfl, hu, k22⟩; unfold RdIntResult at hu; subst hu; dsimp only; replace XA := XA.keep k22; replace XB := XB.keep k22; replace XS := XS.keep k22; replace XD := XD.keep k22; replace XM := XM.keep k22; replace XZ := XZ.keep k22; replace XP := XP.keep k22; replace rA := rA.below k22; replace rB := rB.below k22; replace rS := rS.below k22; replace rD := rD.below k22; replace rM := rM.below k22; replace rZ := rZ.below k22; replace rP := rP.below k22; replace B := B.trans (k22.mono B.size); clear k22; have hS := (show (∀ o, w22.cell? ⟨bP, o, none⟩ = (#[.int .i64 RP.xCode, .int .i64 RP.xMirror.xQ, .slice pp RP.xMirror.xViews.length cp] : Array Value)[o]?) from XP.at.1)) | (go_at_call 45; have _t := tk2; clear _t tk2; refine Calls.at (F := fun V => Blk V bA 59 #[.int .i64 xa.xQ, .slice pa xa.xViews.length ca] ∧ Blk V bB 59 #[.int .i64 xb.xQ, .slice pb xb.xViews.length cb] ∧ Blk V bS 61 #[.int .i64 RS.xCode, .int .i64 RS.xMirror.xQ, .slice ps RS.xMirror.xViews.length cs] ∧ Blk V bD 61 #[.int .i64 RD.xCode, .int .i64 RD.xMirror.xQ, .slice pd RD.xMirror.xViews.length cd] ∧ Blk V bM 59 #[.int .i64 xm.xQ, .slice pm xm.xViews.length cm] ∧ Blk V bZ 61 #[.int .i64 RZ.xCode, .int .i64 RZ.xMirror.xQ, .slice pz RZ.xMirror.xViews.length cz] ∧ Blk V bP 61 #[.int .i64 RP.xCode, .int .i64 RP.xMirror.xQ, .slice pp RP.xMirror.xViews.length cp] ∧ RdMirror V (.agg #[.int .i64 xa.xQ, .slice pa xa.xViews.length ca]) xa ∧ RdMirror V (.agg #[.int .i64 xb.xQ, .slice pb xb.xViews.length cb]) xb ∧ RdMirror V (.agg #[.int .i64 RS.xMirror.xQ, .slice ps RS.xMirror.xViews.length cs]) RS.xMirror ∧ RdMirror V (.agg #[.int .i64 RD.xMirror.xQ, .slice pd RD.xMirror.xViews.length cd]) RD.xMirror ∧ RdMirror V (.agg #[.int .i64 xm.xQ, .slice pm xm.xViews.length cm]) xm ∧ RdMirror V (.agg #[.int .i64 RZ.xMirror.xQ, .slice pz RZ.xMirror.xViews.length cz]) RZ.xMirror ∧ RdMirror V (.agg #[.int .i64 RP.xMirror.xQ, .slice pp RP.xMirror.xViews.length cp]) RP.xMirror ∧ Below w.heap.size w V) ?_ ?_; (first | exact ⟨XA, XB, XS, XD, XM, XZ, XP, rA, rB, rS, rD, rM, rZ, rP, B⟩ | exact ⟨XA.drew, XB.drew, XS.drew, XD.drew, XM.drew, XZ.drew, XP.drew, rA.below (Below.refl _ _).drew, rB.below (Below.refl _ _).drew, rS.below (Below.refl _ _).drew, rD.below (Below.refl _ _).drew, rM.below (Below.refl _ _).drew, rZ.below (Below.refl _ _).drew, rP.below (Below.refl _ _).drew, B.drew⟩); clear hS XA XB XS XD XM XZ XP rA rB rS rD rM rZ rP B; rintro V23 ⟨XA, XB, XS, XD, XM, XZ, XP, rA, rB, rS, rD, rM, rZ, rP, B⟩; refine (KVP _ _ rP).mono ?_; rintro e w23 ⟨u, rfl, hu, k23⟩; unfold RdIntResult at hu; subst hu; dsimp only; replace XA := XA.keep k23; replace XB := XB.keep k23; replace XS := XS.keep k23; replace XD := XD.keep k23; replace XM := XM.keep k23; replace XZ := XZ.keep k23; replace XP := XP.keep k23; replace rA := rA.below k23; replace rB := rB.below k23; replace rS := rS.below k23; replace rD := rD.below k23; replace rM := rM.below k23; replace rZ := rZ.below k23; replace rP := rP.below k23; replace B := B.trans (k23.mono B.size); clear k23; have hS := (show (∀ o, w23.cell? ⟨bP, o, none⟩ = (#[.int .i64 RP.xCode, .int .i64 RP.xMirror.xQ, .slice pp RP.xMirror.xViews.length cp] : Array Value)[o]?) from XP.at.1)))
            clear hS
            go_wp2
            go_meet
            case rel => exact ⟨by simp, XA, XB, XS, XD, XM, XZ, XP, rA, rB, rS, rD, rM, rZ, rP, B⟩
        · as_aux_lemma =>
            have hne : (RP.xCode == 0) = false := by simpa using hc
            clear hc
            refine wp_region_held (S := fun V => (∀ o, V.cell? ⟨bP, o, none⟩ = (#[.int .i64 RP.xCode, .int .i64 RP.xMirror.xQ, .slice pp RP.xMirror.xViews.length cp] : Array Value)[o]?)) (by kernel_rfl) ?_
            try (change wpAnyH _ _ _ _ _ _ _ _ (World.drew _))
            replace XA := XA.drew
            replace XB := XB.drew
            replace XS := XS.drew
            replace XD := XD.drew
            replace XM := XM.drew
            replace XZ := XZ.drew
            replace XP := XP.drew
            replace rA := rA.below (Below.refl _ _).drew
            replace rB := rB.below (Below.refl _ _).drew
            replace rS := rS.below (Below.refl _ _).drew
            replace rD := rD.below (Below.refl _ _).drew
            replace rM := rM.below (Below.refl _ _).drew
            replace rZ := rZ.below (Below.refl _ _).drew
            replace rP := rP.below (Below.refl _ _).drew
            replace B := B.drew
            have hS : (∀ o, W12.drew.cell? ⟨bP, o, none⟩ = (#[.int .i64 RP.xCode, .int .i64 RP.xMirror.xQ, .slice pp RP.xMirror.xViews.length cp] : Array Value)[o]?) := XP.at.1
            refine wpAnyH_take (i := 0) (v := ?vn32) rfl (by kernel_rfl) (by kernel_rfl) (by kernel_rfl) (fun _ _ _ h => h) (Or.inl ⟨by rfl, ?hn32⟩) hS ?rn32
            case hn32 => intro w' hSw; go_simp; (try with_reducible rfl)
            (try simp only [List.getElem_toArray]); (try simp only [List.getElem_cons_succ]); (try simp only [List.getElem_cons_zero]); (try simp only [Act.put]); (try simp only [List.setIfInBounds_toArray]); (try simp only [List.set_cons_succ]); (try simp only [List.set_cons_zero])
            refine wpAnyH_take (i := 1) (v := ?vn33) rfl (by kernel_rfl) (by kernel_rfl) (by kernel_rfl) (fun _ _ _ h => h) (Or.inl ⟨by rfl, ?hn33⟩) hS ?rn33
            case hn33 => intro w' hSw; go_simp; (try with_reducible rfl)
            (try simp only [List.getElem_toArray]); (try simp only [List.getElem_cons_succ]); (try simp only [List.getElem_cons_zero]); (try simp only [Act.put]); (try simp only [List.setIfInBounds_toArray]); (try simp only [List.set_cons_succ]); (try simp only [List.set_cons_zero])
            refine wpAnyH_take (i := 2) (v := ?vn34) rfl (by kernel_rfl) (by kernel_rfl) (by kernel_rfl) (fun _ _ _ h => h) (Or.inl ⟨by rfl, ?hn34⟩) hS ?rn34
            case hn34 => intro w' hSw; go_simp; (try with_reducible rfl)
            (try simp only [List.getElem_toArray]); (try simp only [List.getElem_cons_succ]); (try simp only [List.getElem_cons_zero]); (try simp only [Act.put]); (try simp only [List.setIfInBounds_toArray]); (try simp only [List.set_cons_succ]); (try simp only [List.set_cons_zero])
            refine wpAnyH_take (i := 3) (v := ?vn35) rfl (by kernel_rfl) (by kernel_rfl) (by kernel_rfl) (fun _ _ _ h => h) (Or.inl ⟨by rfl, ?hn35⟩) hS ?rn35
            case hn35 => intro w' hSw; go_simp; (try with_reducible rfl)
            (try simp only [List.getElem_toArray]); (try simp only [List.getElem_cons_succ]); (try simp only [List.getElem_cons_zero]); (try simp only [Act.put]); (try simp only [List.setIfInBounds_toArray]); (try simp only [List.set_cons_succ]); (try simp only [List.set_cons_zero])
            refine wpAnyH_ready (rs := [4]) (by kernel_rfl) (by simp) ?_
            refine AllReadyH.cons (o := _) rfl (fun K hK => ?_) AllReadyH.nil
            rw [if_pos (by rfl)]
            go_simp
            go_at_call 59
            clear hS
            refine (KSP _).mono ?_
            rintro e w24 ⟨u, b9, rfl, hT, hf, k24⟩
            obtain ⟨p9, c9, rfl⟩ := hT.shp
            clear hT hf
            replace XA := XA.keep k24
            replace XB := XB.keep k24
            replace XS := XS.keep k24
            replace XD := XD.keep k24
            replace XM := XM.keep k24
            replace XZ := XZ.keep k24
            replace XP := XP.keep k24
            replace rA := rA.below k24
            replace rB := rB.below k24
            replace rS := rS.below k24
            replace rD := rD.below k24
            replace rM := rM.below k24
            replace rZ := rZ.below k24
            replace rP := rP.below k24
            replace B := B.trans (k24.mono B.size)
            clear k24
            (try dsimp only)
            refine hK.out _ _ XP.at.1 (fun hS => ?_)
            clear hK K
            (try simp only [List.getElem_toArray]); (try simp only [List.getElem_cons_succ]); (try simp only [List.getElem_cons_zero]); (try simp only [Act.put]); (try simp only [List.setIfInBounds_toArray]); (try simp only [List.set_cons_succ]); (try simp only [List.set_cons_zero])
            refine wpAnyH_take (i := 5) (v := ?vn36) rfl (by kernel_rfl) (by kernel_rfl) (by kernel_rfl) (fun _ _ _ h => h) (Or.inl ⟨by rfl, ?hn36⟩) hS ?rn36
            case hn36 => intro w' hSw; go_simp; (try with_reducible rfl)
            (try simp only [List.getElem_toArray]); (try simp only [List.getElem_cons_succ]); (try simp only [List.getElem_cons_zero]); (try simp only [Act.put]); (try simp only [List.setIfInBounds_toArray]); (try simp only [List.set_cons_succ]); (try simp only [List.set_cons_zero])
            refine wpAnyH_take (i := 6) (v := ?vn37) rfl (by kernel_rfl) (by kernel_rfl) (by kernel_rfl) (fun _ _ _ h => h) (Or.inl ⟨by rfl, ?hn37⟩) hS ?rn37
            case hn37 => intro w' hSw; go_simp; (try with_reducible rfl)
            (try simp only [List.getElem_toArray]); (try simp only [List.getElem_cons_succ]); (try simp only [List.getElem_cons_zero]); (try simp only [Act.put]); (try simp only [List.setIfInBounds_toArray]); (try simp only [List.set_cons_succ]); (try simp only [List.set_cons_zero])
            refine wpAnyH_take (i := 7) (v := ?vn38) rfl (by kernel_rfl) (by kernel_rfl) (by kernel_rfl) (fun _ _ _ h => h) (Or.inl ⟨by rfl, ?hn38⟩) hS ?rn38
            case hn38 => intro w' hSw; go_simp; (try with_reducible rfl)
            (try simp only [List.getElem_toArray]); (try simp only [List.getElem_cons_succ]); (try simp only [List.getElem_cons_zero]); (try simp only [Act.put]); (try simp only [List.setIfInBounds_toArray]); (try simp only [List.set_cons_succ]); (try simp only [List.set_cons_zero])
            refine wpAnyH_take (i := 8) (v := ?vn39) rfl (by kernel_rfl) (by kernel_rfl) (by kernel_rfl) (fun _ _ _ h => h) (Or.inl ⟨by rfl, ?hn39⟩) hS ?rn39
            case hn39 => intro w' hSw; go_simp; (try with_reducible rfl)
            (try simp only [List.getElem_toArray]); (try simp only [List.getElem_cons_succ]); (try simp only [List.getElem_cons_zero]); (try simp only [Act.put]); (try simp only [List.setIfInBounds_toArray]); (try simp only [List.set_cons_succ]); (try simp only [List.set_cons_zero])
            refine wpAnyH_take (i := 9) (v := ?vn40) rfl (by kernel_rfl) (by kernel_rfl) (by kernel_rfl) (fun _ _ _ h => h) (Or.inl ⟨by rfl, ?hn40⟩) hS ?rn40
            case hn40 => intro w' hSw; go_simp; (try with_reducible rfl)
            (try simp only [List.getElem_toArray]); (try simp only [List.getElem_cons_succ]); (try simp only [List.getElem_cons_zero]); (try simp only [Act.put]); (try simp only [List.setIfInBounds_toArray]); (try simp only [List.set_cons_succ]); (try simp only [List.set_cons_zero])
            refine wpAnyH_take (i := 10) (v := ?vn41) rfl (by kernel_rfl) (by kernel_rfl) (by kernel_rfl) (fun _ _ _ h => h) (Or.inl ⟨by rfl, ?hn41⟩) hS ?rn41
            case hn41 => intro w' hSw; go_simp; (try with_reducible rfl)
            (try simp only [List.getElem_toArray]); (try simp only [List.getElem_cons_succ]); (try simp only [List.getElem_cons_zero]); (try simp only [Act.put]); (try simp only [List.setIfInBounds_toArray]); (try simp only [List.set_cons_succ]); (try simp only [List.set_cons_zero])
            refine wpAnyH_take (i := 11) (v := ?vn42) rfl (by kernel_rfl) (by kernel_rfl) (by kernel_rfl) (fun _ _ _ h => h) (Or.inl ⟨by rfl, ?hn42⟩) hS ?rn42
            case hn42 => intro w' hSw; go_simp; (try with_reducible rfl)
            (try simp only [List.getElem_toArray]); (try simp only [List.getElem_cons_succ]); (try simp only [List.getElem_cons_zero]); (try simp only [Act.put]); (try simp only [List.setIfInBounds_toArray]); (try simp only [List.set_cons_succ]); (try simp only [List.set_cons_zero])
            refine wpAnyH_take (i := 12) (v := undef) rfl (by kernel_rfl) (by kernel_rfl) (by kernel_rfl) (fun _ _ _ h => h) (Or.inr ⟨by rfl, rfl⟩) hS ?_
            (try simp only [List.getElem_toArray]); (try simp only [List.getElem_cons_succ]); (try simp only [List.getElem_cons_zero]); (try simp only [Act.put]); (try simp only [List.setIfInBounds_toArray]); (try simp only [List.set_cons_succ]); (try simp only [List.set_cons_zero])
            refine wpAnyH_take (i := 13) (v := undef) rfl (by kernel_rfl) (by kernel_rfl) (by kernel_rfl) (fun _ _ _ h => h) (Or.inr ⟨by rfl, rfl⟩) hS ?_
            (try simp only [List.getElem_toArray]); (try simp only [List.getElem_cons_succ]); (try simp only [List.getElem_cons_zero]); (try simp only [Act.put]); (try simp only [List.setIfInBounds_toArray]); (try simp only [List.set_cons_succ]); (try simp only [List.set_cons_zero])
            refine wpAnyH_take (i := 14) (v := undef) rfl (by kernel_rfl) (by kernel_rfl) (by kernel_rfl) (fun _ _ _ h => h) (Or.inr ⟨by rfl, rfl⟩) hS ?_
            (try simp only [List.getElem_toArray]); (try simp only [List.getElem_cons_succ]); (try simp only [List.getElem_cons_zero]); (try simp only [Act.put]); (try simp only [List.setIfInBounds_toArray]); (try simp only [List.set_cons_succ]); (try simp only [List.set_cons_zero])
            refine wpAnyH_take (i := 15) (v := undef) rfl (by kernel_rfl) (by kernel_rfl) (by kernel_rfl) (fun _ _ _ h => h) (Or.inr ⟨by rfl, rfl⟩) hS ?_
            (try simp only [List.getElem_toArray]); (try simp only [List.getElem_cons_succ]); (try simp only [List.getElem_cons_zero]); (try simp only [Act.put]); (try simp only [List.setIfInBounds_toArray]); (try simp only [List.set_cons_succ]); (try simp only [List.set_cons_zero])
            refine wpAnyH_take (i := 16) (v := undef) rfl (by kernel_rfl) (by kernel_rfl) (by kernel_rfl) (fun _ _ _ h => h) (Or.inr ⟨by rfl, rfl⟩) hS ?_
            (try simp only [List.getElem_toArray]); (try simp only [List.getElem_cons_succ]); (try simp only [List.getElem_cons_zero]); (try simp only [Act.put]); (try simp only [List.setIfInBounds_toArray]); (try simp only [List.set_cons_succ]); (try simp only [List.set_cons_zero])
            refine wpAnyH_take (i := 17) (v := undef) rfl (by kernel_rfl) (by kernel_rfl) (by kernel_rfl) (fun _ _ _ h => h) (Or.inr ⟨by rfl, rfl⟩) hS ?_
            (try simp only [List.getElem_toArray]); (try simp only [List.getElem_cons_succ]); (try simp only [List.getElem_cons_zero]); (try simp only [Act.put]); (try simp only [List.setIfInBounds_toArray]); (try simp only [List.set_cons_succ]); (try simp only [List.set_cons_zero])
            refine wpAnyH_take (i := 18) (v := undef) rfl (by kernel_rfl) (by kernel_rfl) (by kernel_rfl) (fun _ _ _ h => h) (Or.inr ⟨by rfl, rfl⟩) hS ?_
            (try simp only [List.getElem_toArray]); (try simp only [List.getElem_cons_succ]); (try simp only [List.getElem_cons_zero]); (try simp only [Act.put]); (try simp only [List.setIfInBounds_toArray]); (try simp only [List.set_cons_succ]); (try simp only [List.set_cons_zero])
            refine wpAnyH_take (i := 19) (v := undef) rfl (by kernel_rfl) (by kernel_rfl) (by kernel_rfl) (fun _ _ _ h => h) (Or.inr ⟨by rfl, rfl⟩) hS ?_
            (try simp only [List.getElem_toArray]); (try simp only [List.getElem_cons_succ]); (try simp only [List.getElem_cons_zero]); (try simp only [Act.put]); (try simp only [List.setIfInBounds_toArray]); (try simp only [List.set_cons_succ]); (try simp only [List.set_cons_zero])
            refine wpAnyH_take (i := 20) (v := undef) rfl (by kernel_rfl) (by kernel_rfl) (by kernel_rfl) (fun _ _ _ h => h) (Or.inr ⟨by rfl, rfl⟩) hS ?_
            (try simp only [List.getElem_toArray]); (try simp only [List.getElem_cons_succ]); (try simp only [List.getElem_cons_zero]); (try simp only [Act.put]); (try simp only [List.setIfInBounds_toArray]); (try simp only [List.set_cons_succ]); (try simp only [List.set_cons_zero])
            refine wpAnyH_take (i := 21) (v := undef) rfl (by kernel_rfl) (by kernel_rfl) (by kernel_rfl) (fun _ _ _ h => h) (Or.inr ⟨by rfl, rfl⟩) hS ?_
            (try simp only [List.getElem_toArray]); (try simp only [List.getElem_cons_succ]); (try simp only [List.getElem_cons_zero]); (try simp only [Act.put]); (try simp only [List.setIfInBounds_toArray]); (try simp only [List.set_cons_succ]); (try simp only [List.set_cons_zero])
            refine wpAnyH_take (i := 22) (v := undef) rfl (by kernel_rfl) (by kernel_rfl) (by kernel_rfl) (fun _ _ _ h => h) (Or.inr ⟨by rfl, rfl⟩) hS ?_
            (try simp only [List.getElem_toArray]); (try simp only [List.getElem_cons_succ]); (try simp only [List.getElem_cons_zero]); (try simp only [Act.put]); (try simp only [List.setIfInBounds_toArray]); (try simp only [List.set_cons_succ]); (try simp only [List.set_cons_zero])
            refine wpAnyH_take (i := 23) (v := undef) rfl (by kernel_rfl) (by kernel_rfl) (by kernel_rfl) (fun _ _ _ h => h) (Or.inr ⟨by rfl, rfl⟩) hS ?_
            (try simp only [List.getElem_toArray]); (try simp only [List.getElem_cons_succ]); (try simp only [List.getElem_cons_zero]); (try simp only [Act.put]); (try simp only [List.setIfInBounds_toArray]); (try simp only [List.set_cons_succ]); (try simp only [List.set_cons_zero])
            refine wpAnyH_take (i := 24) (v := undef) rfl (by kernel_rfl) (by kernel_rfl) (by kernel_rfl) (fun _ _ _ h => h) (Or.inr ⟨by rfl, rfl⟩) hS ?_
            (try simp only [List.getElem_toArray]); (try simp only [List.getElem_cons_succ]); (try simp only [List.getElem_cons_zero]); (try simp only [Act.put]); (try simp only [List.setIfInBounds_toArray]); (try simp only [List.set_cons_succ]); (try simp only [List.set_cons_zero])
            refine wpAnyH_take (i := 25) (v := ?vn43) rfl (by kernel_rfl) (by kernel_rfl) (by kernel_rfl) (fun _ _ _ h => h) (Or.inl ⟨by rfl, ?hn43⟩) hS ?rn43
            case hn43 => intro w' hSw; go_simp; (try with_reducible rfl)
            (try simp only [List.getElem_toArray]); (try simp only [List.getElem_cons_succ]); (try simp only [List.getElem_cons_zero]); (try simp only [Act.put]); (try simp only [List.setIfInBounds_toArray]); (try simp only [List.set_cons_succ]); (try simp only [List.set_cons_zero])
            refine wpAnyH_take (i := 26) (v := ?vn44) rfl (by kernel_rfl) (by kernel_rfl) (by kernel_rfl) (fun _ _ _ h => h) (Or.inl ⟨by rfl, ?hn44⟩) hS ?rn44
            case hn44 => intro w' hSw; go_simp; (try with_reducible rfl)
            (try simp only [List.getElem_toArray]); (try simp only [List.getElem_cons_succ]); (try simp only [List.getElem_cons_zero]); (try simp only [Act.put]); (try simp only [List.setIfInBounds_toArray]); (try simp only [List.set_cons_succ]); (try simp only [List.set_cons_zero])
            refine wpAnyH_done (by kernel_rfl) ?_ _
            clear hS
            go_wp2
            go_meet
            case rel => exact ⟨by simp, XA, XB, XS, XD, XM, XZ, XP, rA, rB, rS, rD, rM, rZ, rP, B⟩
      case rest =>
        clear XA XB XS XD XM XZ XP rA rB rS rD rM rZ rP B KSP
        obtain ⟨rfl, XA, XB, XS, XD, XM, XZ, XP, rA, rB, rS, rD, rM, rZ, rP, B⟩ := hcut
        clear XM XZ XP rM rZ rP
        obtain ⟨W14, hW14⟩ : ∃ x : World, x = wc := ⟨_, rfl⟩
        subst hW14
        have hDS : RD.xCode = RS.xCode := by rw [HRS.out, HRD.out]; exact joinR_bad _ _ _ _
        by_cases hc : RS.xCode = 0
        · skip
          have hcj : (joinR (fun x y => x + y) xa xb).xCode = 0 := by rw [← HRS.out]; exact hc
          obtain ⟨ma, mb, hqe⟩ := joinR_code hcj
          have eS := HRS.out.trans (joinR_ok (fun x y => x + y) ma mb hqe)
          have eD := HRD.out.trans (joinR_ok (fun x y => x - y) ma mb hqe)
          have mb' : mirC xa.xQ xb.xViews = 0 := by rw [hqe]; exact mb
          have fS : mirC RS.xMirror.xQ RS.xMirror.xViews = 0 := by rw [eS]; exact mirC_opRows (fun x y => x + y) ma mb' (by simp)
          have fD : mirC RD.xMirror.xQ RD.xMirror.xViews = 0 := by rw [eD]; exact mirC_opRows (fun x y => x - y) ma mb' (by simp)
          have KFS := fun u V h => impl_MirrorFault u RS.xMirror V h
          have KFD := fun u V h => impl_MirrorFault u RD.xMirror V h
          rw [fS] at KFS
          rw [fD] at KFD
          have KAA := fun u V h => impl_IsAlike u xa (-1) V h
          have KAB := fun u V h => impl_IsAlike u xb (-1) V h
          have HE : Hid (RS = ⟨0, ⟨xa.xQ, opRows (fun x y => x + y) xa.xQ xa.xViews xb.xViews⟩⟩ ∧ RD = ⟨0, ⟨xa.xQ, opRows (fun x y => x - y) xa.xQ xa.xViews xb.xViews⟩⟩) := ⟨eS, eD⟩
          have HQE : Hid (xa.xQ = xb.xQ) := hqe
          have hcn : (RS.xCode != 0) = false := by simpa using hc
          have hcm : (RS.xCode == 0) = true := by simpa using hc
          clear eS eD fS fD hcj hqe hc
          cases hAA : isAlikeR xa.xQ xa.xViews (-1)
          · as_aux_lemma =>
              rw [hAA] at KAA
              clear hAA KAB KFD
              have XSa := XS.at.1
              have XAa := XA.at.1
              go_wp2_with fail
              clear XSa XAa
              refine Calls.at (F := fun V => Blk V bA 59 #[.int .i64 xa.xQ, .slice pa xa.xViews.length ca] ∧ Blk V bB 59 #[.int .i64 xb.xQ, .slice pb xb.xViews.length cb] ∧ Blk V bS 61 #[.int .i64 RS.xCode, .int .i64 RS.xMirror.xQ, .slice ps RS.xMirror.xViews.length cs] ∧ Blk V bD 61 #[.int .i64 RD.xCode, .int .i64 RD.xMirror.xQ, .slice pd RD.xMirror.xViews.length cd] ∧ RdMirror V (.agg #[.int .i64 xa.xQ, .slice pa xa.xViews.length ca]) xa ∧ RdMirror V (.agg #[.int .i64 xb.xQ, .slice pb xb.xViews.length cb]) xb ∧ RdMirror V (.agg #[.int .i64 RS.xMirror.xQ, .slice ps RS.xMirror.xViews.length cs]) RS.xMirror ∧ RdMirror V (.agg #[.int .i64 RD.xMirror.xQ, .slice pd RD.xMirror.xViews.length cd]) RD.xMirror ∧ Below w.heap.size w V) ⟨XA, XB, XS, XD, rA, rB, rS, rD, B⟩ ?_
              clear XA XB XS XD rA rB rS rD B
              rintro V25 ⟨XA, XB, XS, XD, rA, rB, rS, rD, B⟩
              refine (KAA _ _ rA).mono ?_
              rintro e w26 ⟨rfl, k26⟩
              replace XA := XA.keep k26
              replace XB := XB.keep k26
              replace XS := XS.keep k26
              replace XD := XD.keep k26
              replace rA := rA.below k26
              replace rB := rB.below k26
              replace rS := rS.below k26
              replace rD := rD.below k26
              replace B := B.trans (k26.mono B.size)
              clear k26
              have XSa := XS.at.1
              go_wp2_with fail
              clear XSa
              refine Calls.at (F := fun V => Blk V bA 59 #[.int .i64 xa.xQ, .slice pa xa.xViews.length ca] ∧ Blk V bB 59 #[.int .i64 xb.xQ, .slice pb xb.xViews.length cb] ∧ Blk V bS 61 #[.int .i64 RS.xCode, .int .i64 RS.xMirror.xQ, .slice ps RS.xMirror.xViews.length cs] ∧ Blk V bD 61 #[.int .i64 RD.xCode, .int .i64 RD.xMirror.xQ, .slice pd RD.xMirror.xViews.length cd] ∧ RdMirror V (.agg #[.int .i64 xa.xQ, .slice pa xa.xViews.length ca]) xa ∧ RdMirror V (.agg #[.int .i64 xb.xQ, .slice pb xb.xViews.length cb]) xb ∧ RdMirror V (.agg #[.int .i64 RS.xMirror.xQ, .slice ps RS.xMirror.xViews.length cs]) RS.xMirror ∧ RdMirror V (.agg #[.int .i64 RD.xMirror.xQ, .slice pd RD.xMirror.xViews.length cd]) RD.xMirror ∧ Below w.heap.size w V) ⟨XA, XB, XS, XD, rA, rB, rS, rD, B⟩ ?_
              clear XA XB XS XD rA rB rS rD B
              rintro V27 ⟨XA, XB, XS, XD, rA, rB, rS, rD, B⟩
              refine (KFS _ _ rS).mono ?_
              rintro e w28 ⟨rfl, k28⟩
              replace XA := XA.keep k28
              replace XB := XB.keep k28
              replace XS := XS.keep k28
              replace XD := XD.keep k28
              replace rA := rA.below k28
              replace rB := rB.below k28
              replace rS := rS.below k28
              replace rD := rD.below k28
              replace B := B.trans (k28.mono B.size)
              clear k28
              have XAa := XA.at.1
              have XBa := XB.at.1
              go_wp2_with fail
              clear XAa XBa
              refine Calls.at (F := fun V => Blk V bA 59 #[.int .i64 xa.xQ, .slice pa xa.xViews.length ca] ∧ Blk V bB 59 #[.int .i64 xb.xQ, .slice pb xb.xViews.length cb] ∧ Blk V bS 61 #[.int .i64 RS.xCode, .int .i64 RS.xMirror.xQ, .slice ps RS.xMirror.xViews.length cs] ∧ Blk V bD 61 #[.int .i64 RD.xCode, .int .i64 RD.xMirror.xQ, .slice pd RD.xMirror.xViews.length cd] ∧ RdMirror V (.agg #[.int .i64 xa.xQ, .slice pa xa.xViews.length ca]) xa ∧ RdMirror V (.agg #[.int .i64 xb.xQ, .slice pb xb.xViews.length cb]) xb ∧ RdMirror V (.agg #[.int .i64 RS.xMirror.xQ, .slice ps RS.xMirror.xViews.length cs]) RS.xMirror ∧ RdMirror V (.agg #[.int .i64 RD.xMirror.xQ, .slice pd RD.xMirror.xViews.length cd]) RD.xMirror ∧ Below w.heap.size w V) ⟨XA, XB, XS, XD, rA, rB, rS, rD, B⟩ ?_
              clear XA XB XS XD rA rB rS rD B
              rintro V29 ⟨XA, XB, XS, XD, rA, rB, rS, rD, B⟩
              refine (KSS _ _ _ rA rB).mono ?_
              rintro e w30 ⟨u, b9, rfl, hT, hf, k30⟩
              obtain ⟨p9, c9, rfl⟩ := hT.shp
              clear hT hf
              replace XA := XA.keep k30
              replace XB := XB.keep k30
              replace XS := XS.keep k30
              replace XD := XD.keep k30
              replace rA := rA.below k30
              replace rB := rB.below k30
              replace rS := rS.below k30
              replace rD := rD.below k30
              replace B := B.trans (k30.mono B.size)
              clear k30
              go_wp2
              go_ret
              exact ⟨by simp, B⟩
          · as_aux_lemma =>
              rw [hAA] at KAA
              cases hAB : isAlikeR xb.xQ xb.xViews (-1)
              · as_aux_lemma =>
                  rw [hAB] at KAB
                  clear hAA hAB KFD
                  have XSa := XS.at.1
                  have XAa := XA.at.1
                  go_wp2_with fail
                  clear XSa XAa
                  refine Calls.at (F := fun V => Blk V bA 59 #[.int .i64 xa.xQ, .slice pa xa.xViews.length ca] ∧ Blk V bB 59 #[.int .i64 xb.xQ, .slice pb xb.xViews.length cb] ∧ Blk V bS 61 #[.int .i64 RS.xCode, .int .i64 RS.xMirror.xQ, .slice ps RS.xMirror.xViews.length cs] ∧ Blk V bD 61 #[.int .i64 RD.xCode, .int .i64 RD.xMirror.xQ, .slice pd RD.xMirror.xViews.length cd] ∧ RdMirror V (.agg #[.int .i64 xa.xQ, .slice pa xa.xViews.length ca]) xa ∧ RdMirror V (.agg #[.int .i64 xb.xQ, .slice pb xb.xViews.length cb]) xb ∧ RdMirror V (.agg #[.int .i64 RS.xMirror.xQ, .slice ps RS.xMirror.xViews.length cs]) RS.xMirror ∧ RdMirror V (.agg #[.int .i64 RD.xMirror.xQ, .slice pd RD.xMirror.xViews.length cd]) RD.xMirror ∧ Below w.heap.size w V) ⟨XA, XB, XS, XD, rA, rB, rS, rD, B⟩ ?_
                  clear XA XB XS XD rA rB rS rD B
                  rintro V31 ⟨XA, XB, XS, XD, rA, rB, rS, rD, B⟩
                  refine (KAA _ _ rA).mono ?_
                  rintro e w32 ⟨rfl, k32⟩
                  replace XA := XA.keep k32
                  replace XB := XB.keep k32
                  replace XS := XS.keep k32
                  replace XD := XD.keep k32
                  replace rA := rA.below k32
                  replace rB := rB.below k32
                  replace rS := rS.below k32
                  replace rD := rD.below k32
                  replace B := B.trans (k32.mono B.size)
                  clear k32
                  have XBa := XB.at.1
                  go_wp2_with fail
                  clear XBa
                  refine Calls.at (F := fun V => Blk V bA 59 #[.int .i64 xa.xQ, .slice pa xa.xViews.length ca] ∧ Blk V bB 59 #[.int .i64 xb.xQ, .slice pb xb.xViews.length cb] ∧ Blk V bS 61 #[.int .i64 RS.xCode, .int .i64 RS.xMirror.xQ, .slice ps RS.xMirror.xViews.length cs] ∧ Blk V bD 61 #[.int .i64 RD.xCode, .int .i64 RD.xMirror.xQ, .slice pd RD.xMirror.xViews.length cd] ∧ RdMirror V (.agg #[.int .i64 xa.xQ, .slice pa xa.xViews.length ca]) xa ∧ RdMirror V (.agg #[.int .i64 xb.xQ, .slice pb xb.xViews.length cb]) xb ∧ RdMirror V (.agg #[.int .i64 RS.xMirror.xQ, .slice ps RS.xMirror.xViews.length cs]) RS.xMirror ∧ RdMirror V (.agg #[.int .i64 RD.xMirror.xQ, .slice pd RD.xMirror.xViews.length cd]) RD.xMirror ∧ Below w.heap.size w V) ⟨XA, XB, XS, XD, rA, rB, rS, rD, B⟩ ?_
                  clear XA XB XS XD rA rB rS rD B
                  rintro V33 ⟨XA, XB, XS, XD, rA, rB, rS, rD, B⟩
                  refine (KAB _ _ rB).mono ?_
                  rintro e w34 ⟨rfl, k34⟩
                  replace XA := XA.keep k34
                  replace XB := XB.keep k34
                  replace XS := XS.keep k34
                  replace XD := XD.keep k34
                  replace rA := rA.below k34
                  replace rB := rB.below k34
                  replace rS := rS.below k34
                  replace rD := rD.below k34
                  replace B := B.trans (k34.mono B.size)
                  clear k34
                  have XSa := XS.at.1
                  go_wp2_with fail
                  clear XSa
                  refine Calls.at (F := fun V => Blk V bA 59 #[.int .i64 xa.xQ, .slice pa xa.xViews.length ca] ∧ Blk V bB 59 #[.int .i64 xb.xQ, .slice pb xb.xViews.length cb] ∧ Blk V bS 61 #[.int .i64 RS.xCode, .int .i64 RS.xMirror.xQ, .slice ps RS.xMirror.xViews.length cs] ∧ Blk V bD 61 #[.int .i64 RD.xCode, .int .i64 RD.xMirror.xQ, .slice pd RD.xMirror.xViews.length cd] ∧ RdMirror V (.agg #[.int .i64 xa.xQ, .slice pa xa.xViews.length ca]) xa ∧ RdMirror V (.agg #[.int .i64 xb.xQ, .slice pb xb.xViews.length cb]) xb ∧ RdMirror V (.agg #[.int .i64 RS.xMirror.xQ, .slice ps RS.xMirror.xViews.length cs]) RS.xMirror ∧ RdMirror V (.agg #[.int .i64 RD.xMirror.xQ, .slice pd RD.xMirror.xViews.length cd]) RD.xMirror ∧ Below w.heap.size w V) ⟨XA, XB, XS, XD, rA, rB, rS, rD, B⟩ ?_
                  clear XA XB XS XD rA rB rS rD B
                  rintro V35 ⟨XA, XB, XS, XD, rA, rB, rS, rD, B⟩
                  refine (KFS _ _ rS).mono ?_
                  rintro e w36 ⟨rfl, k36⟩
                  replace XA := XA.keep k36
                  replace XB := XB.keep k36
                  replace XS := XS.keep k36
                  replace XD := XD.keep k36
                  replace rA := rA.below k36
                  replace rB := rB.below k36
                  replace rS := rS.below k36
                  replace rD := rD.below k36
                  replace B := B.trans (k36.mono B.size)
                  clear k36
                  have XAa := XA.at.1
                  have XBa := XB.at.1
                  go_wp2_with fail
                  clear XAa XBa
                  refine Calls.at (F := fun V => Blk V bA 59 #[.int .i64 xa.xQ, .slice pa xa.xViews.length ca] ∧ Blk V bB 59 #[.int .i64 xb.xQ, .slice pb xb.xViews.length cb] ∧ Blk V bS 61 #[.int .i64 RS.xCode, .int .i64 RS.xMirror.xQ, .slice ps RS.xMirror.xViews.length cs] ∧ Blk V bD 61 #[.int .i64 RD.xCode, .int .i64 RD.xMirror.xQ, .slice pd RD.xMirror.xViews.length cd] ∧ RdMirror V (.agg #[.int .i64 xa.xQ, .slice pa xa.xViews.length ca]) xa ∧ RdMirror V (.agg #[.int .i64 xb.xQ, .slice pb xb.xViews.length cb]) xb ∧ RdMirror V (.agg #[.int .i64 RS.xMirror.xQ, .slice ps RS.xMirror.xViews.length cs]) RS.xMirror ∧ RdMirror V (.agg #[.int .i64 RD.xMirror.xQ, .slice pd RD.xMirror.xViews.length cd]) RD.xMirror ∧ Below w.heap.size w V) ⟨XA, XB, XS, XD, rA, rB, rS, rD, B⟩ ?_
                  clear XA XB XS XD rA rB rS rD B
                  rintro V37 ⟨XA, XB, XS, XD, rA, rB, rS, rD, B⟩
                  refine (KSS _ _ _ rA rB).mono ?_
                  rintro e w38 ⟨u, b9, rfl, hT, hf, k38⟩
                  obtain ⟨p9, c9, rfl⟩ := hT.shp
                  clear hT hf
                  replace XA := XA.keep k38
                  replace XB := XB.keep k38
                  replace XS := XS.keep k38
                  replace XD := XD.keep k38
                  replace rA := rA.below k38
                  replace rB := rB.below k38
                  replace rS := rS.below k38
                  replace rD := rD.below k38
                  replace B := B.trans (k38.mono B.size)
                  clear k38
                  go_wp2
                  go_ret
                  exact ⟨by simp, B⟩
              · as_aux_lemma =>
                  rw [hAB] at KAB
                  have hq := (mirC_zero ma).1
                  have q1 : 2 ≤ xa.xQ := by rcases hq with h | h <;> omega
                  have q2 : xa.xQ ≤ 256 := by rcases hq with h | h <;> omega
                  obtain ⟨_, hbt, ala⟩ := isAlikeR_true hAA
                  obtain ⟨_, _, alb⟩ := isAlikeR_true hAB
                  have hVS : valueR RS.xMirror.xQ RS.xMirror.xViews (-1) = ⟨0, ((valueR xa.xQ xa.xViews (-1)).xValue + (valueR xa.xQ xb.xViews (-1)).xValue) % xa.xQ⟩ := by
                    rw [HE.out.1]
                    exact value_opRows (f := fun x y => x + y) (fun a b c d => by omega) (by simp) (hadd xa.xQ) hbt ma mb' ala alb
                  have hVD : valueR RD.xMirror.xQ RD.xMirror.xViews (-1) = ⟨0, ((valueR xa.xQ xa.xViews (-1)).xValue - (valueR xa.xQ xb.xViews (-1)).xValue) % xa.xQ⟩ := by
                    rw [HE.out.2]
                    exact value_opRows (f := fun x y => x - y) (fun a b c d => by omega) (by simp) (hsub xa.xQ) hbt ma mb' ala alb
                  have hVA : valueR xa.xQ xa.xViews (-1) = ⟨0, (valueR xa.xQ xa.xViews (-1)).xValue⟩ := by have := value_code hAA; cases h : valueR xa.xQ xa.xViews (-1); rw [h] at this; simp at this; rw [this]
                  have hVB : valueR xb.xQ xb.xViews (-1) = ⟨0, (valueR xa.xQ xb.xViews (-1)).xValue⟩ := by have := value_code hAB; rw [HQE.out]; cases h : valueR xb.xQ xb.xViews (-1); rw [h] at this; simp at this; rw [this]
                  obtain ⟨x1, x2⟩ := value_bd (but := -1) ma
                  obtain ⟨y1, y2⟩ := value_bd (but := -1) mb'
                  have KVS := fun u V h => impl_ValueOf u RS.xMirror (-1) V h
                  have KVD := fun u V h => impl_ValueOf u RD.xMirror (-1) V h
                  have KVA := fun u V h => impl_ValueOf u xa (-1) V h
                  have KVB := fun u V h => impl_ValueOf u xb (-1) V h
                  rw [hVS] at KVS
                  rw [hVD] at KVD
                  rw [hVA] at KVA
                  rw [hVB] at KVB
                  (try dsimp only at KVS KVD KVA KVB)
                  clear hVS hVD hVA hVB hAA hAB hq hbt ala alb ma mb mb'
                  generalize (valueR xa.xQ xa.xViews (-1)).xValue = X at *
                  generalize (valueR xa.xQ xb.xViews (-1)).xValue = Y at *
                  have hw1 : IntKind.i64.wrap (X + Y) = X + Y := by rw [IntWalk.i64_left]; exact IntWalk.wrap64_in _ ⟨by omega, by omega⟩
                  have hw2 : IntKind.i64.wrap (X - Y) = X - Y := by rw [IntWalk.i64_left]; exact IntWalk.wrap64_in _ ⟨by omega, by omega⟩
                  have XSa := XS.at.1
                  have XAa := XA.at.1
                  go_wp2_with fail
                  clear XSa XAa
                  refine Calls.at (F := fun V => Blk V bA 59 #[.int .i64 xa.xQ, .slice pa xa.xViews.length ca] ∧ Blk V bB 59 #[.int .i64 xb.xQ, .slice pb xb.xViews.length cb] ∧ Blk V bS 61 #[.int .i64 RS.xCode, .int .i64 RS.xMirror.xQ, .slice ps RS.xMirror.xViews.length cs] ∧ Blk V bD 61 #[.int .i64 RD.xCode, .int .i64 RD.xMirror.xQ, .slice pd RD.xMirror.xViews.length cd] ∧ RdMirror V (.agg #[.int .i64 xa.xQ, .slice pa xa.xViews.length ca]) xa ∧ RdMirror V (.agg #[.int .i64 xb.xQ, .slice pb xb.xViews.length cb]) xb ∧ RdMirror V (.agg #[.int .i64 RS.xMirror.xQ, .slice ps RS.xMirror.xViews.length cs]) RS.xMirror ∧ RdMirror V (.agg #[.int .i64 RD.xMirror.xQ, .slice pd RD.xMirror.xViews.length cd]) RD.xMirror ∧ Below w.heap.size w V) ⟨XA, XB, XS, XD, rA, rB, rS, rD, B⟩ ?_
                  clear XA XB XS XD rA rB rS rD B
                  rintro V39 ⟨XA, XB, XS, XD, rA, rB, rS, rD, B⟩
                  refine (KAA _ _ rA).mono ?_
                  rintro e w40 ⟨rfl, k40⟩
                  replace XA := XA.keep k40
                  replace XB := XB.keep k40
                  replace XS := XS.keep k40
                  replace XD := XD.keep k40
                  replace rA := rA.below k40
                  replace rB := rB.below k40
                  replace rS := rS.below k40
                  replace rD := rD.below k40
                  replace B := B.trans (k40.mono B.size)
                  clear k40
                  have XBa := XB.at.1
                  go_wp2_with fail
                  clear XBa
                  refine Calls.at (F := fun V => Blk V bA 59 #[.int .i64 xa.xQ, .slice pa xa.xViews.length ca] ∧ Blk V bB 59 #[.int .i64 xb.xQ, .slice pb xb.xViews.length cb] ∧ Blk V bS 61 #[.int .i64 RS.xCode, .int .i64 RS.xMirror.xQ, .slice ps RS.xMirror.xViews.length cs] ∧ Blk V bD 61 #[.int .i64 RD.xCode, .int .i64 RD.xMirror.xQ, .slice pd RD.xMirror.xViews.length cd] ∧ RdMirror V (.agg #[.int .i64 xa.xQ, .slice pa xa.xViews.length ca]) xa ∧ RdMirror V (.agg #[.int .i64 xb.xQ, .slice pb xb.xViews.length cb]) xb ∧ RdMirror V (.agg #[.int .i64 RS.xMirror.xQ, .slice ps RS.xMirror.xViews.length cs]) RS.xMirror ∧ RdMirror V (.agg #[.int .i64 RD.xMirror.xQ, .slice pd RD.xMirror.xViews.length cd]) RD.xMirror ∧ Below w.heap.size w V) ⟨XA, XB, XS, XD, rA, rB, rS, rD, B⟩ ?_
                  clear XA XB XS XD rA rB rS rD B
                  rintro V41 ⟨XA, XB, XS, XD, rA, rB, rS, rD, B⟩
                  refine (KAB _ _ rB).mono ?_
                  rintro e w42 ⟨rfl, k42⟩
                  replace XA := XA.keep k42
                  replace XB := XB.keep k42
                  replace XS := XS.keep k42
                  replace XD := XD.keep k42
                  replace rA := rA.below k42
                  replace rB := rB.below k42
                  replace rS := rS.below k42
                  replace rD := rD.below k42
                  replace B := B.trans (k42.mono B.size)
                  clear k42
                  have XAa := XA.at.1
                  go_wp2_with fail
                  clear XAa
                  refine Calls.at (F := fun V => Blk V bA 59 #[.int .i64 xa.xQ, .slice pa xa.xViews.length ca] ∧ Blk V bB 59 #[.int .i64 xb.xQ, .slice pb xb.xViews.length cb] ∧ Blk V bS 61 #[.int .i64 RS.xCode, .int .i64 RS.xMirror.xQ, .slice ps RS.xMirror.xViews.length cs] ∧ Blk V bD 61 #[.int .i64 RD.xCode, .int .i64 RD.xMirror.xQ, .slice pd RD.xMirror.xViews.length cd] ∧ RdMirror V (.agg #[.int .i64 xa.xQ, .slice pa xa.xViews.length ca]) xa ∧ RdMirror V (.agg #[.int .i64 xb.xQ, .slice pb xb.xViews.length cb]) xb ∧ RdMirror V (.agg #[.int .i64 RS.xMirror.xQ, .slice ps RS.xMirror.xViews.length cs]) RS.xMirror ∧ RdMirror V (.agg #[.int .i64 RD.xMirror.xQ, .slice pd RD.xMirror.xViews.length cd]) RD.xMirror ∧ Below w.heap.size w V) ⟨XA, XB, XS, XD, rA, rB, rS, rD, B⟩ ?_
                  clear XA XB XS XD rA rB rS rD B
                  rintro V43 ⟨XA, XB, XS, XD, rA, rB, rS, rD, B⟩
                  refine (KVA _ _ rA).mono ?_
                  rintro e w44 ⟨u, rfl, hu, k44⟩
                  unfold RdIntResult at hu
                  subst hu
                  (try dsimp only)
                  replace XA := XA.keep k44
                  replace XB := XB.keep k44
                  replace XS := XS.keep k44
                  replace XD := XD.keep k44
                  replace rA := rA.below k44
                  replace rB := rB.below k44
                  replace rS := rS.below k44
                  replace rD := rD.below k44
                  replace B := B.trans (k44.mono B.size)
                  clear k44
                  have XBa := XB.at.1
                  go_wp2_with fail
                  clear XBa
                  refine Calls.at (F := fun V => Blk V bA 59 #[.int .i64 xa.xQ, .slice pa xa.xViews.length ca] ∧ Blk V bB 59 #[.int .i64 xb.xQ, .slice pb xb.xViews.length cb] ∧ Blk V bS 61 #[.int .i64 RS.xCode, .int .i64 RS.xMirror.xQ, .slice ps RS.xMirror.xViews.length cs] ∧ Blk V bD 61 #[.int .i64 RD.xCode, .int .i64 RD.xMirror.xQ, .slice pd RD.xMirror.xViews.length cd] ∧ RdMirror V (.agg #[.int .i64 xa.xQ, .slice pa xa.xViews.length ca]) xa ∧ RdMirror V (.agg #[.int .i64 xb.xQ, .slice pb xb.xViews.length cb]) xb ∧ RdMirror V (.agg #[.int .i64 RS.xMirror.xQ, .slice ps RS.xMirror.xViews.length cs]) RS.xMirror ∧ RdMirror V (.agg #[.int .i64 RD.xMirror.xQ, .slice pd RD.xMirror.xViews.length cd]) RD.xMirror ∧ Below w.heap.size w V) ⟨XA, XB, XS, XD, rA, rB, rS, rD, B⟩ ?_
                  clear XA XB XS XD rA rB rS rD B
                  rintro V45 ⟨XA, XB, XS, XD, rA, rB, rS, rD, B⟩
                  refine (KVB _ _ rB).mono ?_
                  rintro e w46 ⟨u, rfl, hu, k46⟩
                  unfold RdIntResult at hu
                  subst hu
                  (try dsimp only)
                  replace XA := XA.keep k46
                  replace XB := XB.keep k46
                  replace XS := XS.keep k46
                  replace XD := XD.keep k46
                  replace rA := rA.below k46
                  replace rB := rB.below k46
                  replace rS := rS.below k46
                  replace rD := rD.below k46
                  replace B := B.trans (k46.mono B.size)
                  clear k46
                  go_wp2_with fail
                  have hS : (∀ o, w46.cell? ⟨bA, o, none⟩ = (#[.int .i64 xa.xQ, .slice pa xa.xViews.length ca] : Array Value)[o]?) ∧ (∀ o, w46.cell? ⟨bS, o, none⟩ = (#[.int .i64 RS.xCode, .int .i64 RS.xMirror.xQ, .slice ps RS.xMirror.xViews.length cs] : Array Value)[o]?) ∧ (∀ o, w46.cell? ⟨bD, o, none⟩ = (#[.int .i64 RD.xCode, .int .i64 RD.xMirror.xQ, .slice pd RD.xMirror.xViews.length cd] : Array Value)[o]?) := ⟨XA.at.1, XS.at.1, XD.at.1⟩
                  have tk0 : Hid True := trivial
                  have tk1 : Hid True := trivial
                  have tk2 : Hid True := trivial
                  have tk3 : Hid True := trivial
                  have tk4 : Hid True := trivial
                  have tk5 : Hid True := trivial
                  have tk6 : Hid True := trivial
                  go_region_held3 (fun V => (∀ o, V.cell? ⟨bA, o, none⟩ = (#[.int .i64 xa.xQ, .slice pa xa.xViews.length ca] : Array Value)[o]?) ∧ (∀ o, V.cell? ⟨bS, o, none⟩ = (#[.int .i64 RS.xCode, .int .i64 RS.xMirror.xQ, .slice ps RS.xMirror.xViews.length cs] : Array Value)[o]?) ∧ (∀ o, V.cell? ⟨bD, o, none⟩ = (#[.int .i64 RD.xCode, .int .i64 RD.xMirror.xQ, .slice pd RD.xMirror.xViews.length cd] : Array Value)[o]?)) (exact hS) (first | (go_at_call 45; have _t := tk0; clear _t tk0; refine Calls.at (F := fun V => Blk V bA 59 #[.int .i64 xa.xQ, .slice pa xa.xViews.length ca] ∧ Blk V bB 59 #[.int .i64 xb.xQ, .slice pb xb.xViews.length cb] ∧ Blk V bS 61 #[.int .i64 RS.xCode, .int .i64 RS.xMirror.xQ, .slice ps RS.xMirror.xViews.length cs] ∧ Blk V bD 61 #[.int .i64 RD.xCode, .int .i64 RD.xMirror.xQ, .slice pd RD.xMirror.xViews.length cd] ∧ RdMirror V (.agg #[.int .i64 xa.xQ, .slice pa xa.xViews.length ca]) xa ∧ RdMirror V (.agg #[.int .i64 xb.xQ, .slice pb xb.xViews.length cb]) xb ∧ RdMirror V (.agg #[.int .i64 RS.xMirror.xQ, .slice ps RS.xMirror.xViews.length cs]) RS.xMirror ∧ RdMirror V (.agg #[.int .i64 RD.xMirror.xQ, .slice pd RD.xMirror.xViews.length cd]) RD.xMirror ∧ Below w.heap.size w V) ?_ ?_; (first | exact ⟨XA, XB, XS, XD, rA, rB, rS, rD, B⟩ | exact ⟨XA.drew, XB.drew, XS.drew, XD.drew, rA.below (Below.refl _ _).drew, rB.below (Below.refl _ _).drew, rS.below (Below.refl _ _).drew, rD.below (Below.refl _ _).drew, B.drew⟩); clear hS XA XB XS XD rA rB rS rD B; rintro V47 ⟨XA, XB, XS, XD, rA, rB, rS, rD, B⟩; refine (KVS _ _ rS).mono ?_; rintro e w47 ⟨u, rfl, hu, k47⟩; unfold RdIntResult at hu; subst hu; dsimp only; replace XA := XA.keep k47; replace XB := XB.keep k47; replace XS := XS.keep k47; replace XD := XD.keep k47; replace rA := rA.below k47; replace rB := rB.below k47; replace rS := rS.below k47; replace rD := rD.below k47; replace B := B.trans (k47.mono B.size); clear k47; have hS := (show (∀ o, w47.cell? ⟨bA, o, none⟩ = (#[.int .i64 xa.xQ, .slice pa xa.xViews.length ca] : Array Value)[o]?) ∧ (∀ o, w47.cell? ⟨bS, o, none⟩ = (#[.int .i64 RS.xCode, .int .i64 RS.xMirror.xQ, .slice ps RS.xMirror.xViews.length cs] : Array Value)[o]?) ∧ (∀ o, w47.cell? ⟨bD, o, none⟩ = (#[.int .i64 RD.xCode, .int .i64 RD.xMirror.xQ, .slice pd RD.xMirror.xViews.length cd] : Array Value)[o]?) from ⟨XA.at.1, XS.at.1, XD.at.1⟩)) | (go_at_call 45; have _t := tk1; clear _t tk1; refine Calls.at (F := fun V => Blk V bA 59 #[.int .i64 xa.xQ, .slice pa xa.xViews.length ca] ∧ Blk V bB 59 #[.int .i64 xb.xQ, .slice pb xb.xViews.length cb] ∧ Blk V bS 61 #[.int .i64 RS.xCode, .int .i64 RS.xMirror.xQ, .slice ps RS.xMirror.xViews.length cs] ∧ Blk V bD 61 #[.int .i64 RD.xCode, .int .i64 RD.xMirror.xQ, .slice pd RD.xMirror.xViews.length cd] ∧ RdMirror V (.agg #[.int .i64 xa.xQ, .slice pa xa.xViews.length ca]) xa ∧ RdMirror V (.agg #[.int .i64 xb.xQ, .slice pb xb.xViews.length cb]) xb ∧ RdMirror V (.agg #[.int .i64 RS.xMirror.xQ, .slice ps RS.xMirror.xViews.length cs]) RS.xMirror ∧ RdMirror V (.agg #[.int .i64 RD.xMirror.xQ, .slice pd RD.xMirror.xViews.length cd]) RD.xMirror ∧ Below w.heap.size w V) ?_ ?_; (first | exact ⟨XA, XB, XS, XD, rA, rB, rS, rD, B⟩ | exact ⟨XA.drew, XB.drew, XS.drew, XD.drew, rA.below (Below.refl _ _).drew, rB.below (Below.refl _ _).drew, rS.below (Below.refl _ _).drew, rD.below (Below.refl _ _).drew, B.drew⟩); clear hS XA XB XS XD rA rB rS rD B; rintro V48 ⟨XA, XB, XS, XD, rA, rB, rS, rD, B⟩; refine (KVD _ _ rD).mono ?_; rintro e w48 ⟨u, rfl, hu, k48⟩; unfold RdIntResult at hu; subst hu; dsimp only; replace XA := XA.keep k48; replace XB := XB.keep k48; replace XS := XS.keep k48; replace XD := XD.keep k48; replace rA := rA.below k48; replace rB := rB.below k48; replace rS := rS.below k48; replace rD := rD.below k48; replace B := B.trans (k48.mono B.size); clear k48; have hS := (show (∀ o, w48.cell? ⟨bA, o, none⟩ = (#[.int .i64 xa.xQ, .slice pa xa.xViews.length ca] : Array Value)[o]?) ∧ (∀ o, w48.cell? ⟨bS, o, none⟩ = (#[.int .i64 RS.xCode, .int .i64 RS.xMirror.xQ, .slice ps RS.xMirror.xViews.length cs] : Array Value)[o]?) ∧ (∀ o, w48.cell? ⟨bD, o, none⟩ = (#[.int .i64 RD.xCode, .int .i64 RD.xMirror.xQ, .slice pd RD.xMirror.xViews.length cd] : Array Value)[o]?) from ⟨XA.at.1, XS.at.1, XD.at.1⟩)) | (go_at_call 45; have _t := tk2; clear _t tk2; refine Calls.at (F := fun V => Blk V bA 59 #[.int .i64 xa.xQ, .slice pa xa.xViews.length ca] ∧ Blk V bB 59 #[.int .i64 xb.xQ, .slice pb xb.xViews.length cb] ∧ Blk V bS 61 #[.int .i64 RS.xCode, .int .i64 RS.xMirror.xQ, .slice ps RS.xMirror.xViews.length cs] ∧ Blk V bD 61 #[.int .i64 RD.xCode, .int .i64 RD.xMirror.xQ, .slice pd RD.xMirror.xViews.length cd] ∧ RdMirror V (.agg #[.int .i64 xa.xQ, .slice pa xa.xViews.length ca]) xa ∧ RdMirror V (.agg #[.int .i64 xb.xQ, .slice pb xb.xViews.length cb]) xb ∧ RdMirror V (.agg #[.int .i64 RS.xMirror.xQ, .slice ps RS.xMirror.xViews.length cs]) RS.xMirror ∧ RdMirror V (.agg #[.int .i64 RD.xMirror.xQ, .slice pd RD.xMirror.xViews.length cd]) RD.xMirror ∧ Below w.heap.size w V) ?_ ?_; (first | exact ⟨XA, XB, XS, XD, rA, rB, rS, rD, B⟩ | exact ⟨XA.drew, XB.drew, XS.drew, XD.drew, rA.below (Below.refl _ _).drew, rB.below (Below.refl _ _).drew, rS.below (Below.refl _ _).drew, rD.below (Below.refl _ _).drew, B.drew⟩); clear hS XA XB XS XD rA rB rS rD B; rintro V49 ⟨XA, XB, XS, XD, rA, rB, rS, rD, B⟩; refine (KVD _ _ rD).mono ?_; rintro e w49 ⟨u, rfl, hu, k49⟩; unfold RdIntResult at hu; subst hu; dsimp only; replace XA := XA.keep k49; replace XB := XB.keep k49; replace XS := XS.keep k49; replace XD := XD.keep k49; replace rA := rA.below k49; replace rB := rB.below k49; replace rS := rS.below k49; replace rD := rD.below k49; replace B := B.trans (k49.mono B.size); clear k49; have hS := (show (∀ o, w49.cell? ⟨bA, o, none⟩ = (#[.int .i64 xa.xQ, .slice pa xa.xViews.length ca] : Array Value)[o]?) ∧ (∀ o, w49.cell? ⟨bS, o, none⟩ = (#[.int .i64 RS.xCode, .int .i64 RS.xMirror.xQ, .slice ps RS.xMirror.xViews.length cs] : Array Value)[o]?) ∧ (∀ o, w49.cell? ⟨bD, o, none⟩ = (#[.int .i64 RD.xCode, .int .i64 RD.xMirror.xQ, .slice pd RD.xMirror.xViews.length cd] : Array Value)[o]?) from ⟨XA.at.1, XS.at.1, XD.at.1⟩)) | (go_at_call 48; have _t := tk3; clear _t tk3; refine Calls.at (F := fun V => Blk V bA 59 #[.int .i64 xa.xQ, .slice pa xa.xViews.length ca] ∧ Blk V bB 59 #[.int .i64 xb.xQ, .slice pb xb.xViews.length cb] ∧ Blk V bS 61 #[.int .i64 RS.xCode, .int .i64 RS.xMirror.xQ, .slice ps RS.xMirror.xViews.length cs] ∧ Blk V bD 61 #[.int .i64 RD.xCode, .int .i64 RD.xMirror.xQ, .slice pd RD.xMirror.xViews.length cd] ∧ RdMirror V (.agg #[.int .i64 xa.xQ, .slice pa xa.xViews.length ca]) xa ∧ RdMirror V (.agg #[.int .i64 xb.xQ, .slice pb xb.xViews.length cb]) xb ∧ RdMirror V (.agg #[.int .i64 RS.xMirror.xQ, .slice ps RS.xMirror.xViews.length cs]) RS.xMirror ∧ RdMirror V (.agg #[.int .i64 RD.xMirror.xQ, .slice pd RD.xMirror.xViews.length cd]) RD.xMirror ∧ Below w.heap.size w V) ?_ ?_; (first | exact ⟨XA, XB, XS, XD, rA, rB, rS, rD, B⟩ | exact ⟨XA.drew, XB.drew, XS.drew, XD.drew, rA.below (Below.refl _ _).drew, rB.below (Below.refl _ _).drew, rS.below (Below.refl _ _).drew, rD.below (Below.refl _ _).drew, B.drew⟩); clear hS XA XB XS XD rA rB rS rD B; rintro V50 ⟨XA, XB, XS, XD, rA, rB, rS, rD, B⟩; refine (KFS _ _ rS).mono ?_; rintro e w50 ⟨rfl, k50⟩; replace XA := XA.keep k50; replace XB := XB.keep k50; replace XS := XS.keep k50; replace XD := XD.keep k50; replace rA := rA.below k50; replace rB := rB.below k50; replace rS := rS.below k50; replace rD := rD.below k50; replace B := B.trans (k50.mono B.size); clear k50; have hS := (show (∀ o, w50.cell? ⟨bA, o, none⟩ = (#[.int .i64 xa.xQ, .slice pa xa.xViews.length ca] : Array Value)[o]?) ∧ (∀ o, w50.cell? ⟨bS, o, none⟩ = (#[.int .i64 RS.xCode, .int .i64 RS.xMirror.xQ, .slice ps RS.xMirror.xViews.length cs] : Array Value)[o]?) ∧ (∀ o, w50.cell? ⟨bD, o, none⟩ = (#[.int .i64 RD.xCode, .int .i64 RD.xMirror.xQ, .slice pd RD.xMirror.xViews.length cd] : Array Value)[o]?) from ⟨XA.at.1, XS.at.1, XD.at.1⟩)) | (go_at_call 48; have _t := tk4; clear _t tk4; refine Calls.at (F := fun V => Blk V bA 59 #[.int .i64 xa.xQ, .slice pa xa.xViews.length ca] ∧ Blk V bB 59 #[.int .i64 xb.xQ, .slice pb xb.xViews.length cb] ∧ Blk V bS 61 #[.int .i64 RS.xCode, .int .i64 RS.xMirror.xQ, .slice ps RS.xMirror.xViews.length cs] ∧ Blk V bD 61 #[.int .i64 RD.xCode, .int .i64 RD.xMirror.xQ, .slice pd RD.xMirror.xViews.length cd] ∧ RdMirror V (.agg #[.int .i64 xa.xQ, .slice pa xa.xViews.length ca]) xa ∧ RdMirror V (.agg #[.int .i64 xb.xQ, .slice pb xb.xViews.length cb]) xb ∧ RdMirror V (.agg #[.int .i64 RS.xMirror.xQ, .slice ps RS.xMirror.xViews.length cs]) RS.xMirror ∧ RdMirror V (.agg #[.int .i64 RD.xMirror.xQ, .slice pd RD.xMirror.xViews.length cd]) RD.xMirror ∧ Below w.heap.size w V) ?_ ?_; (first | exact ⟨XA, XB, XS, XD, rA, rB, rS, rD, B⟩ | exact ⟨XA.drew, XB.drew, XS.drew, XD.drew, rA.below (Below.refl _ _).drew, rB.below (Below.refl _ _).drew, rS.below (Below.refl _ _).drew, rD.below (Below.refl _ _).drew, B.drew⟩); clear hS XA XB XS XD rA rB rS rD B; rintro V51 ⟨XA, XB, XS, XD, rA, rB, rS, rD, B⟩; refine (KFD _ _ rD).mono ?_; rintro e w51 ⟨rfl, k51⟩; replace XA := XA.keep k51; replace XB := XB.keep k51; replace XS := XS.keep k51; replace XD := XD.keep k51; replace rA := rA.below k51; replace rB := rB.below k51; replace rS := rS.below k51; replace rD := rD.below k51; replace B := B.trans (k51.mono B.size); clear k51; have hS := (show (∀ o, w51.cell? ⟨bA, o, none⟩ = (#[.int .i64 xa.xQ, .slice pa xa.xViews.length ca] : Array Value)[o]?) ∧ (∀ o, w51.cell? ⟨bS, o, none⟩ = (#[.int .i64 RS.xCode, .int .i64 RS.xMirror.xQ, .slice ps RS.xMirror.xViews.length cs] : Array Value)[o]?) ∧ (∀ o, w51.cell? ⟨bD, o, none⟩ = (#[.int .i64 RD.xCode, .int .i64 RD.xMirror.xQ, .slice pd RD.xMirror.xViews.length cd] : Array Value)[o]?) from ⟨XA.at.1, XS.at.1, XD.at.1⟩)) | (go_at_call 16; have _t := tk5; clear _t tk5; refine Calls.at (F := fun V => Blk V bA 59 #[.int .i64 xa.xQ, .slice pa xa.xViews.length ca] ∧ Blk V bB 59 #[.int .i64 xb.xQ, .slice pb xb.xViews.length cb] ∧ Blk V bS 61 #[.int .i64 RS.xCode, .int .i64 RS.xMirror.xQ, .slice ps RS.xMirror.xViews.length cs] ∧ Blk V bD 61 #[.int .i64 RD.xCode, .int .i64 RD.xMirror.xQ, .slice pd RD.xMirror.xViews.length cd] ∧ RdMirror V (.agg #[.int .i64 xa.xQ, .slice pa xa.xViews.length ca]) xa ∧ RdMirror V (.agg #[.int .i64 xb.xQ, .slice pb xb.xViews.length cb]) xb ∧ RdMirror V (.agg #[.int .i64 RS.xMirror.xQ, .slice ps RS.xMirror.xViews.length cs]) RS.xMirror ∧ RdMirror V (.agg #[.int .i64 RD.xMirror.xQ, .slice pd RD.xMirror.xViews.length cd]) RD.xMirror ∧ Below w.heap.size w V) ?_ ?_; (first | exact ⟨XA, XB, XS, XD, rA, rB, rS, rD, B⟩ | exact ⟨XA.drew, XB.drew, XS.drew, XD.drew, rA.below (Below.refl _ _).drew, rB.below (Below.refl _ _).drew, rS.below (Below.refl _ _).drew, rD.below (Below.refl _ _).drew, B.drew⟩); clear hS XA XB XS XD rA rB rS rD B; rintro V52 ⟨XA, XB, XS, XD, rA, rB, rS, rD, B⟩; refine (lwMod_at _ _ _ (by omega) q2).mono ?_; rintro e w52 ⟨rfl, rfl⟩; have hS := (show (∀ o, V52.cell? ⟨bA, o, none⟩ = (#[.int .i64 xa.xQ, .slice pa xa.xViews.length ca] : Array Value)[o]?) ∧ (∀ o, V52.cell? ⟨bS, o, none⟩ = (#[.int .i64 RS.xCode, .int .i64 RS.xMirror.xQ, .slice ps RS.xMirror.xViews.length cs] : Array Value)[o]?) ∧ (∀ o, V52.cell? ⟨bD, o, none⟩ = (#[.int .i64 RD.xCode, .int .i64 RD.xMirror.xQ, .slice pd RD.xMirror.xViews.length cd] : Array Value)[o]?) from ⟨XA.at.1, XS.at.1, XD.at.1⟩)) | (go_at_call 16; have _t := tk6; clear _t tk6; refine Calls.at (F := fun V => Blk V bA 59 #[.int .i64 xa.xQ, .slice pa xa.xViews.length ca] ∧ Blk V bB 59 #[.int .i64 xb.xQ, .slice pb xb.xViews.length cb] ∧ Blk V bS 61 #[.int .i64 RS.xCode, .int .i64 RS.xMirror.xQ, .slice ps RS.xMirror.xViews.length cs] ∧ Blk V bD 61 #[.int .i64 RD.xCode, .int .i64 RD.xMirror.xQ, .slice pd RD.xMirror.xViews.length cd] ∧ RdMirror V (.agg #[.int .i64 xa.xQ, .slice pa xa.xViews.length ca]) xa ∧ RdMirror V (.agg #[.int .i64 xb.xQ, .slice pb xb.xViews.length cb]) xb ∧ RdMirror V (.agg #[.int .i64 RS.xMirror.xQ, .slice ps RS.xMirror.xViews.length cs]) RS.xMirror ∧ RdMirror V (.agg #[.int .i64 RD.xMirror.xQ, .slice pd RD.xMirror.xViews.length cd]) RD.xMirror ∧ Below w.heap.size w V) ?_ ?_; (first | exact ⟨XA, XB, XS, XD, rA, rB, rS, rD, B⟩ | exact ⟨XA.drew, XB.drew, XS.drew, XD.drew, rA.below (Below.refl _ _).drew, rB.below (Below.refl _ _).drew, rS.below (Below.refl _ _).drew, rD.below (Below.refl _ _).drew, B.drew⟩); clear hS XA XB XS XD rA rB rS rD B; rintro V53 ⟨XA, XB, XS, XD, rA, rB, rS, rD, B⟩; refine (lwMod_at _ _ _ (by omega) q2).mono ?_; rintro e w53 ⟨rfl, rfl⟩; have hS := (show (∀ o, V53.cell? ⟨bA, o, none⟩ = (#[.int .i64 xa.xQ, .slice pa xa.xViews.length ca] : Array Value)[o]?) ∧ (∀ o, V53.cell? ⟨bS, o, none⟩ = (#[.int .i64 RS.xCode, .int .i64 RS.xMirror.xQ, .slice ps RS.xMirror.xViews.length cs] : Array Value)[o]?) ∧ (∀ o, V53.cell? ⟨bD, o, none⟩ = (#[.int .i64 RD.xCode, .int .i64 RD.xMirror.xQ, .slice pd RD.xMirror.xViews.length cd] : Array Value)[o]?) from ⟨XA.at.1, XS.at.1, XD.at.1⟩)))
                  clear hS
                  all_goals
                    go_wp2
                    go_ret
                    exact ⟨by simp, B⟩
        · as_aux_lemma =>
            have hne : (RS.xCode == 0) = false := by simpa using hc
            clear hc
            have XSa := XS.at.1
            go_wp2_with fail
            clear XSa
            have hS : (∀ o, W14.cell? ⟨bA, o, none⟩ = (#[.int .i64 xa.xQ, .slice pa xa.xViews.length ca] : Array Value)[o]?) ∧ (∀ o, W14.cell? ⟨bB, o, none⟩ = (#[.int .i64 xb.xQ, .slice pb xb.xViews.length cb] : Array Value)[o]?) ∧ (∀ o, W14.cell? ⟨bS, o, none⟩ = (#[.int .i64 RS.xCode, .int .i64 RS.xMirror.xQ, .slice ps RS.xMirror.xViews.length cs] : Array Value)[o]?) ∧ (∀ o, W14.cell? ⟨bD, o, none⟩ = (#[.int .i64 RD.xCode, .int .i64 RD.xMirror.xQ, .slice pd RD.xMirror.xViews.length cd] : Array Value)[o]?) := ⟨XA.at.1, XB.at.1, XS.at.1, XD.at.1⟩
            have tk0 : Hid True := trivial
            go_region_held3 (fun V => (∀ o, V.cell? ⟨bA, o, none⟩ = (#[.int .i64 xa.xQ, .slice pa xa.xViews.length ca] : Array Value)[o]?) ∧ (∀ o, V.cell? ⟨bB, o, none⟩ = (#[.int .i64 xb.xQ, .slice pb xb.xViews.length cb] : Array Value)[o]?) ∧ (∀ o, V.cell? ⟨bS, o, none⟩ = (#[.int .i64 RS.xCode, .int .i64 RS.xMirror.xQ, .slice ps RS.xMirror.xViews.length cs] : Array Value)[o]?) ∧ (∀ o, V.cell? ⟨bD, o, none⟩ = (#[.int .i64 RD.xCode, .int .i64 RD.xMirror.xQ, .slice pd RD.xMirror.xViews.length cd] : Array Value)[o]?)) (exact hS) (first | (go_at_call 60; have _t := tk0; clear _t tk0; refine Calls.at (F := fun V => Blk V bA 59 #[.int .i64 xa.xQ, .slice pa xa.xViews.length ca] ∧ Blk V bB 59 #[.int .i64 xb.xQ, .slice pb xb.xViews.length cb] ∧ Blk V bS 61 #[.int .i64 RS.xCode, .int .i64 RS.xMirror.xQ, .slice ps RS.xMirror.xViews.length cs] ∧ Blk V bD 61 #[.int .i64 RD.xCode, .int .i64 RD.xMirror.xQ, .slice pd RD.xMirror.xViews.length cd] ∧ RdMirror V (.agg #[.int .i64 xa.xQ, .slice pa xa.xViews.length ca]) xa ∧ RdMirror V (.agg #[.int .i64 xb.xQ, .slice pb xb.xViews.length cb]) xb ∧ RdMirror V (.agg #[.int .i64 RS.xMirror.xQ, .slice ps RS.xMirror.xViews.length cs]) RS.xMirror ∧ RdMirror V (.agg #[.int .i64 RD.xMirror.xQ, .slice pd RD.xMirror.xViews.length cd]) RD.xMirror ∧ Below w.heap.size w V) ?_ ?_; (first | exact ⟨XA, XB, XS, XD, rA, rB, rS, rD, B⟩ | exact ⟨XA.drew, XB.drew, XS.drew, XD.drew, rA.below (Below.refl _ _).drew, rB.below (Below.refl _ _).drew, rS.below (Below.refl _ _).drew, rD.below (Below.refl _ _).drew, B.drew⟩); clear hS XA XB XS XD rA rB rS rD B; rintro V54 ⟨XA, XB, XS, XD, rA, rB, rS, rD, B⟩; refine (KSS _ _ _ rA rB).mono ?_; rintro e w54 ⟨u, b9, rfl, hT, hf, k54⟩; obtain ⟨p9, c9, rfl⟩ := hT.shp; clear hT hf; replace XA := XA.keep k54; replace XB := XB.keep k54; replace XS := XS.keep k54; replace XD := XD.keep k54; replace rA := rA.below k54; replace rB := rB.below k54; replace rS := rS.below k54; replace rD := rD.below k54; replace B := B.trans (k54.mono B.size); clear k54; have hS := (show (∀ o, w54.cell? ⟨bA, o, none⟩ = (#[.int .i64 xa.xQ, .slice pa xa.xViews.length ca] : Array Value)[o]?) ∧ (∀ o, w54.cell? ⟨bB, o, none⟩ = (#[.int .i64 xb.xQ, .slice pb xb.xViews.length cb] : Array Value)[o]?) ∧ (∀ o, w54.cell? ⟨bS, o, none⟩ = (#[.int .i64 RS.xCode, .int .i64 RS.xMirror.xQ, .slice ps RS.xMirror.xViews.length cs] : Array Value)[o]?) ∧ (∀ o, w54.cell? ⟨bD, o, none⟩ = (#[.int .i64 RD.xCode, .int .i64 RD.xMirror.xQ, .slice pd RD.xMirror.xViews.length cd] : Array Value)[o]?) from ⟨XA.at.1, XB.at.1, XS.at.1, XD.at.1⟩)))
            clear hS
            go_wp2
            go_ret
            exact ⟨by simp, B⟩

/-! the row's step -/
set_option maxRecDepth 100000 in
theorem lifted (os : Os) (started : os.Started) (H : Type) (enc : TypeId × Value → H) :
    ReturnsInHanded {} Try.checked os 8 .any (Rows.fnSumsSpec.pre6 enc Try.prog Try.f8 Rows.fnSumsRow.domain false) (Rows.fnSumsSpec.post enc Try.prog Try.f8 false true false false) := by
  refine returnsInHanded_of_change (C := Try.checked) own started (by kernel_rfl) Try.func8
    (ChangeSpec.witness6 (enc := enc) (C := Try.checked) false ⟨#[], #[.slice none 0 0], []⟩ 8 (by kernel_rfl) (by kernel_rfl) (by kernel_rfl) (by kernel_rfl)) ?_
  intro W base args ds gs before hval0 hW hcnd _
  have hval : ∀ (j : Nat) t v, Try.f8.params[j]? = some t → args[j]? = some v → Value.okWide Try.prog W .any base t v := hval0
  have hW' := hW
  obtain ⟨p, q, hA0, hV, rfl, hfz, hnd⟩ := hW
  have hA : DataW.TrodAll enc Try.prog W 0 (fun _ => true) true Try.f8.params.toList args.toList ds p := hA0
  rw [Try.params8] at hA hval
  obtain ⟨v0, vs0, d0, ds0, p0, q0, hargs, rfl, rfl, h0, r0⟩ := trodAll_cons hA
  obtain ⟨rfl, rfl, rfl⟩ := trodAll_nil r0
  obtain rfl : args = #[v0] := by cases args; simp_all
  obtain ⟨rfl, rfl⟩ := trodVars_none hV
  obtain ⟨a0, len0, cap0, rfl⟩ := okWide_slice Try.underlying22 (hval 0 22 v0 rfl rfl)
  have k0 := h0
  have lt0 : ∀ x ∈ p0, x.block < W.heap.size := by obtain ⟨m, hm⟩ := k0; exact DataW.trod_lt m _ _ _ hm
  obtain ⟨z0, w0⟩ : ∃ zs, IsRow .u8 W a0 len0 cap0 zs := by
    obtain ⟨fuel, hf⟩ := h0
    rcases open_ints Try.underlying22 Try.underlying5 (by kernel_rfl) hf with ⟨hcs, _⟩ | ⟨x, l, c, zs, hcs, _, hl, hm, hz, _, hcell, hwz⟩
    · simp [Value.cells] at hcs
      obtain ⟨rfl, rfl, rfl⟩ := hcs
      exact ⟨[], .inl ⟨rfl, rfl, rfl, rfl⟩⟩
    · simp [Value.cells] at hcs
      obtain ⟨rfl, rfl, rfl⟩ := hcs
      exact ⟨zs, .inr ⟨_, rfl, hl, hm, by simpa using hz, hcell, hwz⟩⟩
  clear hA0 hval0
  refine (walk a0 len0 cap0 z0 W w0).mono fun e W' ⟨he, bel⟩ => ?_
  subst he
  exact ⟨_, rfl, _, _, _, [], _, [], hW', trodAll_mk1 (shut_bool Try.underlying4 _), (trodAll_cons_mk (Below.trod laidOut (by kernel_rfl) (of_decide_eq_true (by kernel_rfl)) k0 bel lt0) trodAll_mk0), rfl, bel.frame _, fun h => by cases h⟩

theorem over : Rows.fnSumsRow.holds Try.pinned (OpenSpec.ofChange Rows.fnSumsSpec) :=
  OpenClaim.holds_of_wide 8 Try.f8 rfl rfl rfl rfl rfl rfl rfl ⟨rfl, rfl, rfl, rfl, rfl⟩ rfl rfl rfl rfl rfl (by kernel_rfl) Try.func8 (by kernel_rfl)
    (of_decide_eq_true (by kernel_rfl)) (by unfold Func.isWrapper; first | (rw [if_pos (by decide +kernel)]; kernel_rfl) | (rw [if_neg (by decide +kernel)]; exact ⟨rfl, rfl⟩))
    (fun os started H enc _ => lifted os started H enc)

end Go.Proofs.Ytepobckhfodngaa.fnSums
namespace Go.Proofs.Ytepobckhfodngaa
theorem fnSums_holds : Rows.FnSumsSaid := fnSums.over
#print axioms fnSums_holds
end Go.Proofs.Ytepobckhfodngaa
