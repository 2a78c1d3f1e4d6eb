/-
  FnExactPlainMirror answers true at all whole numbers: the program's PlainMirror answers as its model does, and each answer owns its memory.
-/
import Derived.Test.YtadppilldijijajMirUp
import Derived.Test.YtadppilldijijajOpen
import Derived.Test.YtadppilldijijajOpen
import Derived.Deep.RegionHeld3
import Derived.Deep.CutRange
import Derived.Deep.Cut
import Derived.Deep.RegionWith
import Derived.ShutString
import Derived.ChangeOld
import Derived.Below
namespace Go.Proofs.Ytadppilldijijaj.fnExactPlainMirror
open Go.ChangeShapes Go.WideShapes Go.ChangeAt Go.RowKit
open Go.ChangeMaps (open_string shut_string)
set_option linter.unusedVariables false

theorem own : ownKnob Try.prog.godebug = none := by kernel_rfl
theorem laidOut : laidOutB Try.prog = true := by kernel_rfl

set_option maxHeartbeats 4000000 in
set_option maxRecDepth 100000 in
theorem walk (a0 : Int) (a1 : Int) (w : World)  (w0 : (Lit.int .i64 a0).wf = true) (w1 : (Lit.int .i64 a1).wf = true) :
    Calls Try.prog 5 #[.int .i64 a0, .int .i64 a1] w fun e w' => e = .returned (.bool true) ∧ Below w.heap.size w w' := by
  have KS : ∀ (V : World), Calls Try.prog 20 #[.int .i64 a0, .int .i64 a1] V fun e V' => ∃ u b0, e = .returned u ∧ OwMirrorResult V' (u) (mirrorOfR a0 [a1, 0, 0, 0]) b0 ∧ (∀ y ∈ b0, V.heap.size ≤ y) ∧ Below V.heap.size V V' := fun V => spec_PlainMirror _ _ _
  have KI : ∀ (V : World), Calls Try.prog 21 #[.int .i64 a0, .int .i64 a1] V fun e V' => ∃ u b0, e = .returned u ∧ OwMirrorResult V' (u) (mirrorOfR a0 [a1, 0, 0, 0]) b0 ∧ (∀ y ∈ b0, V.heap.size ≤ y) ∧ Below V.heap.size V V' := fun V => impl_PlainMirror _ _ _
  obtain ⟨r, HS, HI, hcr⟩ : ∃ r : MMirrorResult, Hid (∀ (V : World), Calls Try.prog 20 #[.int .i64 a0, .int .i64 a1] V fun e V' => ∃ u b0, e = .returned u ∧ OwMirrorResult V' (u) r b0 ∧ (∀ y ∈ b0, V.heap.size ≤ y) ∧ Below V.heap.size V V') ∧ Hid (∀ (V : World), Calls Try.prog 21 #[.int .i64 a0, .int .i64 a1] V fun e V' => ∃ u b0, e = .returned u ∧ OwMirrorResult V' (u) r b0 ∧ (∀ y ∈ b0, V.heap.size ≤ y) ∧ Below V.heap.size V V') ∧ cntMirrorResult r ≤ 268435456 := ⟨mirrorOfR a0 [a1, 0, 0, 0], KS, KI, mirrorOfR_cnt a0 [a1, 0, 0, 0]⟩
  clear KS KI
  go_enter Try.func5, Try.ntmps5
  go_wp2_with fail
  refine Calls.at (F := fun V => Below w.heap.size w V) (Below.refl _ _) ?_
  rintro V1 B
  refine (HS.out _ ).mono ?_
  rintro e w2 ⟨u, bw0_0, rfl, w0, fw0_0, hb2⟩
  obtain ⟨pw0_0, cw0_0, rfl⟩ := w0.shp
  have F_w0 : ∀ y ∈ bw0_0, V1.heap.size ≤ y := fw0_0
  have G_w0 : ∀ y ∈ bw0_0, w.heap.size ≤ y := fun y hy => Nat.le_trans B.size (F_w0 y hy)
  clear F_w0
  replace B := B.trans (hb2.mono B.size)
  go_wp2_with fail
  have nb_Yw0_w0 : w2.heap.size ∉ bw0_0 := fun hm => Nat.lt_irrefl _ (w0.lt _ hm)
  refine Calls.at (F := fun V => Blk V (w2.heap.size) 28 #[.int .i64 r.xCode, .int .i64 r.xMirror.xQ, .slice pw0_0 r.xMirror.xViews.length cw0_0] ∧ Below w.heap.size w V ∧ OwMirrorResult V (.agg #[.int .i64 r.xCode, .int .i64 r.xMirror.xQ, .slice pw0_0 r.xMirror.xViews.length cw0_0]) r bw0_0) ⟨Blk.new _ _ _, B.alloc B.size _, w0.alloc _⟩ ?_
  clear B w0
  rintro V3 ⟨Yw0, B, w0⟩
  refine (HI.out _ ).mono ?_
  rintro e w4 ⟨u, bg0_0, rfl, g0, fg0_0, hb4⟩
  obtain ⟨pg0_0, cg0_0, rfl⟩ := g0.shp
  have F_g0 : ∀ y ∈ bg0_0, V3.heap.size ≤ y := fg0_0
  have dj_w0_g0 : Dj bw0_0 bg0_0 := fun y hy hm => Nat.not_lt.2 (F_g0 y hm) (w0.lt y hy)
  have nb_Yw0_g0 : w2.heap.size ∉ bg0_0 := fun hm => Nat.not_lt.2 (F_g0 _ hm) Yw0.lt
  have G_g0 : ∀ y ∈ bg0_0, w.heap.size ≤ y := fun y hy => Nat.le_trans B.size (F_g0 y hy)
  clear F_g0
  replace Yw0 := Yw0.keep hb4
  replace w0 := w0.keep hb4
  replace B := B.trans (hb4.mono B.size)
  have Yw0a := Yw0.at.1
  have Yw0l := Yw0.lt
  go_wp2_with fail
  clear Yw0a Yw0l
  have nb_Yg0_w0 : w4.heap.size ∉ bw0_0 := fun hm => Nat.lt_irrefl _ (w0.lt _ hm)
  have nb_Yg0_g0 : w4.heap.size ∉ bg0_0 := fun hm => Nat.lt_irrefl _ (g0.lt _ hm)
  refine Calls.at (F := fun V => Blk V (w2.heap.size) 28 #[.int .i64 r.xCode, .int .i64 r.xMirror.xQ, .slice pw0_0 r.xMirror.xViews.length cw0_0] ∧ Blk V (w4.heap.size) 28 #[.int .i64 r.xCode, .int .i64 r.xMirror.xQ, .slice pg0_0 r.xMirror.xViews.length cg0_0] ∧ Below w.heap.size w V ∧ OwMirrorResult V (.agg #[.int .i64 r.xCode, .int .i64 r.xMirror.xQ, .slice pw0_0 r.xMirror.xViews.length cw0_0]) r bw0_0 ∧ OwMirrorResult V (.agg #[.int .i64 r.xCode, .int .i64 r.xMirror.xQ, .slice pg0_0 r.xMirror.xViews.length cg0_0]) r bg0_0) ⟨Yw0.alloc _, Blk.new _ _ _, B.alloc B.size _, w0.alloc _, g0.alloc _⟩ ?_
  clear Yw0 B w0 g0
  rintro V5 ⟨Yw0, Yg0, B, w0, g0⟩
  refine (eqMirrorResult_rd _ _ r _ (by exact g0.rd) (by exact w0.rd)).mono ?_
  rintro e w6 ⟨rfl, hb6⟩
  replace Yw0 := Yw0.keep hb6
  replace Yg0 := Yg0.keep hb6
  replace w0 := w0.keep hb6
  replace g0 := g0.keep hb6
  replace B := B.trans (hb6.mono B.size)
  have Yw0a := Yw0.at.1
  have Yw0l := Yw0.lt
  have Yg0a := Yg0.at.1
  have Yg0l := Yg0.lt
  go_wp2_with fail
  clear Yw0a Yw0l Yg0a Yg0l
  refine Calls.at (F := fun V => Blk V (w2.heap.size) 28 #[.int .i64 r.xCode, .int .i64 r.xMirror.xQ, .slice pw0_0 r.xMirror.xViews.length cw0_0] ∧ Blk V (w4.heap.size) 28 #[.int .i64 r.xCode, .int .i64 r.xMirror.xQ, .slice pg0_0 r.xMirror.xViews.length cg0_0] ∧ Below w.heap.size w V ∧ OwMirrorResult V (.agg #[.int .i64 r.xCode, .int .i64 r.xMirror.xQ, .slice pw0_0 r.xMirror.xViews.length cw0_0]) r bw0_0 ∧ OwMirrorResult V (.agg #[.int .i64 r.xCode, .int .i64 r.xMirror.xQ, .slice pg0_0 r.xMirror.xViews.length cg0_0]) r bg0_0) ⟨Yw0, Yg0, B, w0, g0⟩ ?_
  clear Yw0 Yg0 B w0 g0
  rintro V7 ⟨Yw0, Yg0, B, w0, g0⟩
  refine (markMirrorResult_ow _ r bg0_0 _ _ (by exact g0) (by omega) (by omega)).mono ?_
  rintro e w8 ⟨rfl, mm, oo⟩
  replace Yw0 := Yw0.off oo nb_Yw0_g0
  replace Yg0 := Yg0.off oo nb_Yg0_g0
  replace w0 := w0.off oo dj_w0_g0
  replace B := B.trans (oo.toBelow B.size G_g0)
  clear g0
  have g0 := mm
  clear mm
  have Yw0a := Yw0.at.1
  have Yw0l := Yw0.lt
  have Yg0a := Yg0.at.1
  have Yg0l := Yg0.lt
  go_wp2_with fail
  clear Yw0a Yw0l Yg0a Yg0l
  refine Calls.at (F := fun V => Blk V (w2.heap.size) 28 #[.int .i64 r.xCode, .int .i64 r.xMirror.xQ, .slice pw0_0 r.xMirror.xViews.length cw0_0] ∧ Blk V (w4.heap.size) 28 #[.int .i64 r.xCode, .int .i64 r.xMirror.xQ, .slice pg0_0 r.xMirror.xViews.length cg0_0] ∧ Below w.heap.size w V ∧ OwMirrorResult V (.agg #[.int .i64 r.xCode, .int .i64 r.xMirror.xQ, .slice pw0_0 r.xMirror.xViews.length cw0_0]) r bw0_0 ∧ OwMirrorResult V (.agg #[.int .i64 r.xCode, .int .i64 r.xMirror.xQ, .slice pg0_0 r.xMirror.xViews.length cg0_0]) (mkMirrorResult 1 r) bg0_0) ⟨Yw0, Yg0, B, w0, g0⟩ ?_
  clear Yw0 Yg0 B w0 g0
  rintro V9 ⟨Yw0, Yg0, B, w0, g0⟩
  refine (heldMirrorResult_rd _ r _ _ (by exact g0.rd) (by omega) (by omega)).mono ?_
  rintro e w10 ⟨rfl, hb10⟩
  replace Yw0 := Yw0.keep hb10
  replace Yg0 := Yg0.keep hb10
  replace w0 := w0.keep hb10
  replace g0 := g0.keep hb10
  replace B := B.trans (hb10.mono B.size)
  have Yw0a := Yw0.at.1
  have Yw0l := Yw0.lt
  have Yg0a := Yg0.at.1
  have Yg0l := Yg0.lt
  go_wp2_with fail
  clear Yw0a Yw0l Yg0a Yg0l
  refine Calls.at (F := fun V => Blk V (w2.heap.size) 28 #[.int .i64 r.xCode, .int .i64 r.xMirror.xQ, .slice pw0_0 r.xMirror.xViews.length cw0_0] ∧ Blk V (w4.heap.size) 28 #[.int .i64 r.xCode, .int .i64 r.xMirror.xQ, .slice pg0_0 r.xMirror.xViews.length cg0_0] ∧ Below w.heap.size w V ∧ OwMirrorResult V (.agg #[.int .i64 r.xCode, .int .i64 r.xMirror.xQ, .slice pw0_0 r.xMirror.xViews.length cw0_0]) r bw0_0 ∧ OwMirrorResult V (.agg #[.int .i64 r.xCode, .int .i64 r.xMirror.xQ, .slice pg0_0 r.xMirror.xViews.length cg0_0]) (mkMirrorResult 1 r) bg0_0) ⟨Yw0, Yg0, B, w0, g0⟩ ?_
  clear Yw0 Yg0 B w0 g0
  rintro V11 ⟨Yw0, Yg0, B, w0, g0⟩
  refine (HI.out _ ).mono ?_
  rintro e w12 ⟨u, bh0_0, rfl, h0, fh0_0, hb12⟩
  obtain ⟨ph0_0, ch0_0, rfl⟩ := h0.shp
  have F_h0 : ∀ y ∈ bh0_0, V11.heap.size ≤ y := fh0_0
  have dj_w0_h0 : Dj bw0_0 bh0_0 := fun y hy hm => Nat.not_lt.2 (F_h0 y hm) (w0.lt y hy)
  have dj_g0_h0 : Dj bg0_0 bh0_0 := fun y hy hm => Nat.not_lt.2 (F_h0 y hm) (g0.lt y hy)
  have nb_Yw0_h0 : w2.heap.size ∉ bh0_0 := fun hm => Nat.not_lt.2 (F_h0 _ hm) Yw0.lt
  have nb_Yg0_h0 : w4.heap.size ∉ bh0_0 := fun hm => Nat.not_lt.2 (F_h0 _ hm) Yg0.lt
  have G_h0 : ∀ y ∈ bh0_0, w.heap.size ≤ y := fun y hy => Nat.le_trans B.size (F_h0 y hy)
  clear F_h0
  replace Yw0 := Yw0.keep hb12
  replace Yg0 := Yg0.keep hb12
  replace w0 := w0.keep hb12
  replace g0 := g0.keep hb12
  replace B := B.trans (hb12.mono B.size)
  have Yw0a := Yw0.at.1
  have Yw0l := Yw0.lt
  have Yg0a := Yg0.at.1
  have Yg0l := Yg0.lt
  go_wp2_with fail
  clear Yw0a Yw0l Yg0a Yg0l
  have nb_Yh0_w0 : w12.heap.size ∉ bw0_0 := fun hm => Nat.lt_irrefl _ (w0.lt _ hm)
  have nb_Yh0_g0 : w12.heap.size ∉ bg0_0 := fun hm => Nat.lt_irrefl _ (g0.lt _ hm)
  have nb_Yh0_h0 : w12.heap.size ∉ bh0_0 := fun hm => Nat.lt_irrefl _ (h0.lt _ hm)
  refine Calls.at (F := fun V => Blk V (w2.heap.size) 28 #[.int .i64 r.xCode, .int .i64 r.xMirror.xQ, .slice pw0_0 r.xMirror.xViews.length cw0_0] ∧ Blk V (w4.heap.size) 28 #[.int .i64 r.xCode, .int .i64 r.xMirror.xQ, .slice pg0_0 r.xMirror.xViews.length cg0_0] ∧ Blk V (w12.heap.size) 28 #[.int .i64 r.xCode, .int .i64 r.xMirror.xQ, .slice ph0_0 r.xMirror.xViews.length ch0_0] ∧ Below w.heap.size w V ∧ OwMirrorResult V (.agg #[.int .i64 r.xCode, .int .i64 r.xMirror.xQ, .slice pw0_0 r.xMirror.xViews.length cw0_0]) r bw0_0 ∧ OwMirrorResult V (.agg #[.int .i64 r.xCode, .int .i64 r.xMirror.xQ, .slice pg0_0 r.xMirror.xViews.length cg0_0]) (mkMirrorResult 1 r) bg0_0 ∧ OwMirrorResult V (.agg #[.int .i64 r.xCode, .int .i64 r.xMirror.xQ, .slice ph0_0 r.xMirror.xViews.length ch0_0]) r bh0_0) ⟨Yw0.alloc _, Yg0.alloc _, Blk.new _ _ _, B.alloc B.size _, w0.alloc _, g0.alloc _, h0.alloc _⟩ ?_
  clear Yw0 Yg0 B w0 g0 h0
  rintro V13 ⟨Yw0, Yg0, Yh0, B, w0, g0, h0⟩
  refine (eqMirrorResult_rd _ _ r _ (by exact h0.rd) (by exact w0.rd)).mono ?_
  rintro e w14 ⟨rfl, hb14⟩
  replace Yw0 := Yw0.keep hb14
  replace Yg0 := Yg0.keep hb14
  replace Yh0 := Yh0.keep hb14
  replace w0 := w0.keep hb14
  replace g0 := g0.keep hb14
  replace h0 := h0.keep hb14
  replace B := B.trans (hb14.mono B.size)
  have Yw0a := Yw0.at.1
  have Yw0l := Yw0.lt
  have Yg0a := Yg0.at.1
  have Yg0l := Yg0.lt
  have Yh0a := Yh0.at.1
  have Yh0l := Yh0.lt
  go_wp2_with fail
  clear Yw0a Yw0l Yg0a Yg0l Yh0a Yh0l
  refine Calls.at (F := fun V => Blk V (w2.heap.size) 28 #[.int .i64 r.xCode, .int .i64 r.xMirror.xQ, .slice pw0_0 r.xMirror.xViews.length cw0_0] ∧ Blk V (w4.heap.size) 28 #[.int .i64 r.xCode, .int .i64 r.xMirror.xQ, .slice pg0_0 r.xMirror.xViews.length cg0_0] ∧ Blk V (w12.heap.size) 28 #[.int .i64 r.xCode, .int .i64 r.xMirror.xQ, .slice ph0_0 r.xMirror.xViews.length ch0_0] ∧ Below w.heap.size w V ∧ OwMirrorResult V (.agg #[.int .i64 r.xCode, .int .i64 r.xMirror.xQ, .slice pw0_0 r.xMirror.xViews.length cw0_0]) r bw0_0 ∧ OwMirrorResult V (.agg #[.int .i64 r.xCode, .int .i64 r.xMirror.xQ, .slice pg0_0 r.xMirror.xViews.length cg0_0]) (mkMirrorResult 1 r) bg0_0 ∧ OwMirrorResult V (.agg #[.int .i64 r.xCode, .int .i64 r.xMirror.xQ, .slice ph0_0 r.xMirror.xViews.length ch0_0]) r bh0_0) ⟨Yw0, Yg0, Yh0, B, w0, g0, h0⟩ ?_
  clear Yw0 Yg0 Yh0 B w0 g0 h0
  rintro V15 ⟨Yw0, Yg0, Yh0, B, w0, g0, h0⟩
  refine (heldMirrorResult_rd _ r _ _ (by exact g0.rd) (by omega) (by omega)).mono ?_
  rintro e w16 ⟨rfl, hb16⟩
  replace Yw0 := Yw0.keep hb16
  replace Yg0 := Yg0.keep hb16
  replace Yh0 := Yh0.keep hb16
  replace w0 := w0.keep hb16
  replace g0 := g0.keep hb16
  replace h0 := h0.keep hb16
  replace B := B.trans (hb16.mono B.size)
  have Yw0a := Yw0.at.1
  have Yw0l := Yw0.lt
  have Yg0a := Yg0.at.1
  have Yg0l := Yg0.lt
  have Yh0a := Yh0.at.1
  have Yh0l := Yh0.lt
  go_wp2
  go_ret
  exact ⟨rfl, B⟩
/-! the row's step -/
set_option maxRecDepth 100000 in
theorem lifted (os : Os) (started : os.Started) (H : Type) (enc : TypeId × Value → H) :
    ReturnsInHanded {} Try.checked os 5 .any (Rows.fnExactPlainMirrorSpec.pre6 enc Try.prog Try.f5 Rows.fnExactPlainMirrorRow.domain false) (Rows.fnExactPlainMirrorSpec.post enc Try.prog Try.f5 false true false false) := by
  refine returnsInHanded_of_change (C := Try.checked) own started (by kernel_rfl) Try.func5
    (ChangeSpec.witness6 (enc := enc) (C := Try.checked) false ⟨#[], #[.int .i64 0, .int .i64 0], []⟩ 8 (by kernel_rfl) (by kernel_rfl) (by kernel_rfl) (by kernel_rfl)) ?_
  intro W base args ds gs before hval0 hW hcnd _
  have hval : ∀ (j : Nat) t v, Try.f5.params[j]? = some t → args[j]? = some v → Value.okWide Try.prog W .any base t v := hval0
  have hW' := hW
  obtain ⟨p, q, hA0, hV, rfl, hfz, hnd⟩ := hW
  have hA : DataW.TrodAll enc Try.prog W 0 (fun _ => true) true Try.f5.params.toList args.toList ds p := hA0
  rw [Try.params5] at hA hval
  obtain ⟨v0, vs0, d0, ds0, p0, q0, hargs, rfl, rfl, h0, r0⟩ := trodAll_cons hA
  obtain ⟨v1, vs1, d1, ds1, p1, q1, rfl, rfl, rfl, h1, r1⟩ := trodAll_cons r0
  obtain ⟨rfl, rfl, rfl⟩ := trodAll_nil r1
  obtain rfl : args = #[v0, v1] := by cases args; simp_all
  obtain ⟨rfl, rfl⟩ := trodVars_none hV
  obtain ⟨a0, rfl, rfl, rfl, w0⟩ := open_int Try.underlying2 (hval 0 2 v0 rfl rfl) h0
  obtain ⟨a1, rfl, rfl, rfl, w1⟩ := open_int Try.underlying2 (hval 1 2 v1 rfl rfl) h1
  clear hA0 hval0
  refine (walk a0 a1 W w0 w1).mono fun e W' ⟨he, bel⟩ => ?_
  subst he
  exact ⟨_, rfl, _, _, _, [], _, [], hW', trodAll_mk1 (shut_bool Try.underlying4 _), (trodAll_cons_mk (shut_int Try.underlying2 w0) (trodAll_cons_mk (shut_int Try.underlying2 w1) trodAll_mk0)), rfl, bel.frame _, fun h => by cases h⟩

theorem over : Rows.fnExactPlainMirrorRow.holds Try.pinned (OpenSpec.ofChange Rows.fnExactPlainMirrorSpec) :=
  OpenClaim.holds_of_wide 5 Try.f5 rfl rfl rfl rfl rfl rfl rfl ⟨rfl, rfl, rfl, rfl, rfl⟩ rfl rfl rfl rfl rfl (by kernel_rfl) Try.func5 (by kernel_rfl)
    (of_decide_eq_true (by kernel_rfl)) (by unfold Func.isWrapper; first | (rw [if_pos (by decide +kernel)]; kernel_rfl) | (rw [if_neg (by decide +kernel)]; exact ⟨rfl, rfl⟩))
    (fun os started H enc _ => lifted os started H enc)

end Go.Proofs.Ytadppilldijijaj.fnExactPlainMirror
namespace Go.Proofs.Ytadppilldijijaj
theorem fnExactPlainMirror_holds : Rows.FnExactPlainMirrorSaid := fnExactPlainMirror.over
#print axioms fnExactPlainMirror_holds
end Go.Proofs.Ytadppilldijijaj
