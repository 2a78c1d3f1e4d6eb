/-
  A sign, in the model: SignBit; what is answered is small.
-/
import Derived.Test.YtepobckhfodngaoGreatSgS
import Derived.Test.YtepobckhfodngaoGreatOneM
namespace Go.Proofs.YtepobckhfodngaoGreat
open Go.ChangeShapes Go.WideShapes Go.ChangeAt Go.RowKit
set_option linter.unusedVariables false
def sgR (x : MNet) (a : MMirror) : MMixResult := oneR (ofC 256 x a) (sgX a.xViews x) 2 (sgF a.xViews x)
theorem sgR_cnt (x : MNet) (a : MMirror) (h : totNet x ≤ 1048576) : cntMixResult (sgR x a) ≤ 268435456 :=
  oneR_cnt (m := 252) h (by omega) (fun hc => ⟨sgX_tape _ _, by
    obtain ⟨h0, h1⟩ := ofC_zero hc
    have := sgX_NB (mirC_zero (oqC_zero h1).1).2.2.2.2 (NetB.of (quietC_zero h0).1 (Fit.of_tot h))
    rwa [Nat.zero_add] at this⟩)
set_option maxHeartbeats 2000000 in
set_option maxRecDepth 100000 in
theorem spec_l8Asked (bN bM : Nat) (x : MNet) (p0 p1 p2 : Option Addr) (c0 c1 c2 : Nat) (a : MMirror) (pa : Option Addr) (ca : Nat) (w : World) (hb : Blk w bN 41 #[.slice p0 x.xTape.length c0, .slice p1 x.xUsed.length c1, .int .i64 x.xSent, .slice p2 x.xHeard.length c2, .int .i64 x.xCheat.xWho, .int .i64 x.xCheat.xAt, .int .i64 x.xCheat.xBy, .bool x.xCheat.xCry, .bool x.xQuarrel.xSome, .int .i64 x.xQuarrel.xFrom, .int .i64 x.xQuarrel.xCheck, .int .i64 x.xQuarrel.xTo, .int .i64 x.xQuarrel.xTold, .int .i64 x.xQuarrel.xHeard, .int .i64 x.xQuarrel.xOther, .int .i64 x.xQuarrel.xVowed]) (h0 : ReadsM w (.slice p0 x.xTape.length c0) x.xTape) (h1 : Reads w .i64 (.slice p1 x.xUsed.length c1) x.xUsed) (h2 : ReadsM w (.slice p2 x.xHeard.length c2) x.xHeard) (hm : Blk w bM 36 #[.int .i64 a.xQ, .slice pa a.xViews.length ca]) (hv : ReadsM w (.slice pa a.xViews.length ca) a.xViews) :
    Calls Tryz.prog 30 #[.pointer (some ⟨bN, 0, none⟩), .pointer (some ⟨bM, 0, none⟩)] w fun e w' => e = .returned (.int .i64 (ofC 256 x a)) ∧ Below w.heap.size w w' := by
  have KQ := spec_l5Free bN x p0 p1 p2 c0 c1 c2 w hb h0 h1 h2
  have KF := spec_l3Fault bM a.xQ (.slice pa a.xViews.length ca) a.xViews w hm hv
  clear h0 h1 h2 hb
  by_cases k0 : quietC x = 0
  · rw [k0] at KQ
    by_cases k1 : mirC a.xQ a.xViews = 0
    · rw [k1] at KF
      by_cases k2 : a.xQ = 256
      · have HR : Hid (ofC 256 x a = 0) := by show _ = _; unfold ofC oqC; rw [if_pos k0, if_pos k1, if_pos k2]
        have hne : (a.xQ != 256) = false := by simpa using k2
        clear k0 k1 k2 hv
        go_enter Tryz.func30, Tryz.ntmps30
        go_wp2_with fail
        refine KQ.mono ?_
        rintro e w1 ⟨rfl, rfl⟩
        go_wp2_with fail
        refine KF.mono ?_
        rintro e w2 ⟨rfl, hb2⟩
        have X1 := hm.keep hb2
        have xq := X1.at.1
        have xl := X1.lt
        clear hm X1 KQ KF
        go_wp2
        go_ret
        exact ⟨by rw [HR.out]; rfl, hb2⟩
      · have HR : Hid (ofC 256 x a = 1) := by show _ = _; unfold ofC oqC; rw [if_pos k0, if_pos k1, if_neg k2]
        have hne : (a.xQ != 256) = true := by simpa using k2
        clear k0 k1 k2 hv
        go_enter Tryz.func30, Tryz.ntmps30
        go_wp2_with fail
        refine KQ.mono ?_
        rintro e w1 ⟨rfl, rfl⟩
        go_wp2_with fail
        refine KF.mono ?_
        rintro e w2 ⟨rfl, hb2⟩
        have X1 := hm.keep hb2
        have xq := X1.at.1
        have xl := X1.lt
        clear hm X1 KQ KF
        go_wp2
        go_ret
        exact ⟨by rw [HR.out]; rfl, hb2⟩
    · have HR : Hid (ofC 256 x a = mirC a.xQ a.xViews) := by show _ = _; unfold ofC oqC; rw [if_pos k0, if_neg k1]
      have hne : (mirC a.xQ a.xViews != 0) = true := by simpa using k1
      generalize mirC a.xQ a.xViews = r at *
      clear k0 k1 hv hm
      go_enter Tryz.func30, Tryz.ntmps30
      go_wp2_with fail
      refine KQ.mono ?_
      rintro e w1 ⟨rfl, rfl⟩
      go_wp2_with fail
      refine KF.mono ?_
      rintro e w2 ⟨rfl, hb2⟩
      clear KQ KF
      go_wp2
      go_ret
      exact ⟨by rw [HR.out]; rfl, hb2⟩
  · have HR : Hid (ofC 256 x a = quietC x) := if_neg k0
    have hne : (quietC x != 0) = true := by simpa using k0
    generalize quietC x = r at *
    clear k0 hv hm KF
    go_enter Tryz.func30, Tryz.ntmps30
    go_wp2_with fail
    refine KQ.mono ?_
    rintro e w1 ⟨rfl, rfl⟩
    go_wp2
    go_ret
    exact ⟨by rw [HR.out]; rfl, Below.refl _ _⟩
end Go.Proofs.YtepobckhfodngaoGreat
