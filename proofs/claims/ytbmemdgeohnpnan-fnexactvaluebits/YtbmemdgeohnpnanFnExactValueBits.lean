/-
  FnExactValueBits answers true at every list of mirrors and every whole number: the program's ValueBits answers as its model does, and writes into no argument.
-/
import Derived.Test.YtbmemdgeohnpnanEq
import Derived.Test.YtbmemdgeohnpnanOpen
import Derived.Test.YtbmemdgeohnpnanOpenS
import Derived.Test.YtbmemdgeohnpnanMrT
import Derived.Test.YtbmemdgeohnpnanVB
import Derived.Test.YtbmemdgeohnpnanOpen
import Derived.Deep.RegionHeld3
import Derived.Deep.CutRange
import Derived.Deep.Cut
import Derived.Deep.RegionWith
import Derived.ShutString
import Derived.ChangeOld
import Derived.Below
namespace Go.Proofs.Ytbmemdgeohnpnan.fnExactValueBits
open Go.ChangeShapes Go.WideShapes Go.ChangeAt Go.RowKit
open Go.ChangeMaps (open_string shut_string)
set_option linter.unusedVariables false

theorem own : ownKnob Try.prog.godebug = none := by kernel_rfl
theorem laidOut : laidOutB Try.prog = true := by kernel_rfl

set_option maxHeartbeats 4000000 in
set_option maxRecDepth 100000 in
theorem walk (v0 : Value) (x0 : List MMirror) (a1 : Int) (w : World) (r0 : RdMirrorS w (v0) x0) (w1 : (Lit.int .i64 a1).wf = true) :
    Calls Try.prog 4 #[v0, .int .i64 a1] w fun e w' => e = .returned (.bool true) ∧ Below w.heap.size w w' := by
  obtain ⟨p0_0, c0_0, hv0⟩ : ∃ p c, v0 = .slice p x0.length c := RdMirrorS.shp r0
  subst hv0
  by_cases s0 : (1048576 : Int) < (totMirrorS x0 : Nat)
  · skip
    go_enter Try.func4, Try.ntmps4
    go_wp2_with fail
    refine Calls.at (F := fun V => Below w.heap.size w V) (Below.refl _ _) ?_
    rintro V1 B
    refine (szMirrorS_over _ x0 _ _ (by exact r0.below B) (by omega) (by omega) (by omega)).mono ?_
    rintro e w2 ⟨rfl, hb2⟩
    replace B := B.trans (hb2.mono B.size)
    go_wp2
    go_ret
    exact ⟨rfl, B⟩
  have hc0 := cntMirrorS_le x0
  have KS : ∀ (V : World) (u0 : Value), RdMirrorS V (u0) x0 → Calls Try.prog 15 #[u0, .int .i64 a1] V fun e V' => ∃ u, e = .returned u ∧ RdIntResult V' u (vbitsR x0 a1) ∧ Below V.heap.size V V' := fun V u0 h => (spec_ValueBits _ _ _ _ h).mono (fun e w' k => ⟨_, k.1, rfl, k.2⟩)
  have KI : ∀ (V : World) (u0 : Value), RdMirrorS V (u0) x0 → Calls Try.prog 17 #[u0, .int .i64 a1] V fun e V' => ∃ u, e = .returned u ∧ RdIntResult V' u (vbitsR x0 a1) ∧ Below V.heap.size V V' := fun V u0 h => (impl_ValueBits _ _ _ _ h).mono (fun e w' k => ⟨_, k.1, rfl, k.2⟩)
  obtain ⟨r, HS, HI⟩ : ∃ r : MIntResult, Hid (∀ (V : World) (u0 : Value), RdMirrorS V (u0) x0 → Calls Try.prog 15 #[u0, .int .i64 a1] V fun e V' => ∃ u, e = .returned u ∧ RdIntResult V' u r ∧ Below V.heap.size V V') ∧ Hid (∀ (V : World) (u0 : Value), RdMirrorS V (u0) x0 → Calls Try.prog 17 #[u0, .int .i64 a1] V fun e V' => ∃ u, e = .returned u ∧ RdIntResult V' u r ∧ Below V.heap.size V V') := ⟨vbitsR x0 a1, KS, KI⟩
  clear KS KI
  go_enter Try.func4, Try.ntmps4
  go_wp2_with fail
  refine Calls.at (F := fun V => Below w.heap.size w V) (Below.refl _ _) ?_
  rintro V3 B
  refine (szMirrorS_fit _ x0 _ _ (by exact r0.below B) (by omega) (by omega) (by omega)).mono ?_
  rintro e w4 ⟨rfl, hb4⟩
  replace B := B.trans (hb4.mono B.size)
  go_wp2_with fail
  refine Calls.at (F := fun V => Below w.heap.size w V) B ?_
  clear B
  rintro V5 B
  refine (toMirrorS_ow _ x0 _ (by exact r0.below B) (by omega)).mono ?_
  rintro e w6 ⟨u, bw0a0_0, rfl, w0a0, fw0a0_0, hb6⟩
  obtain ⟨pw0a0_0, cw0a0_0, rfl⟩ := OwMirrorS.value w0a0
  have F_w0a0 : ∀ y ∈ bw0a0_0, V5.heap.size ≤ y := fw0a0_0
  have G_w0a0 : ∀ y ∈ bw0a0_0, w.heap.size ≤ y := fun y hy => Nat.le_trans B.size (F_w0a0 y hy)
  clear F_w0a0
  replace B := B.trans (hb6.mono B.size)
  go_wp2_with fail
  refine Calls.at (F := fun V => Below w.heap.size w V ∧ OwMirrorS V (.slice pw0a0_0 x0.length cw0a0_0) x0 bw0a0_0) ⟨B, w0a0⟩ ?_
  clear B w0a0
  rintro V7 ⟨B, w0a0⟩
  refine (HS.out _ _ (by exact OwMirrorS.reads w0a0)).mono ?_
  rintro e w8 ⟨u, rfl, hu, hb8⟩
  unfold RdIntResult at hu
  subst hu
  replace w0a0 := w0a0.keep hb8
  replace B := B.trans (hb8.mono B.size)
  clear w0a0 G_w0a0
  go_wp2_with fail
  refine Calls.at (F := fun V => Blk V (w8.heap.size) 40 #[.int .i64 r.xCode, .int .i64 r.xValue] ∧ Below w.heap.size w V) ⟨Blk.new _ _ _, B.alloc B.size _⟩ ?_
  clear B
  rintro V9 ⟨Yw0, B⟩
  refine (toMirrorS_ow _ x0 _ (by exact r0.below B) (by omega)).mono ?_
  rintro e w10 ⟨u, bx0c_0, rfl, x0c, fx0c_0, hb10⟩
  obtain ⟨px0c_0, cx0c_0, rfl⟩ := OwMirrorS.value x0c
  have F_x0c : ∀ y ∈ bx0c_0, V9.heap.size ≤ y := fx0c_0
  have nb_Yw0_x0c : w8.heap.size ∉ bx0c_0 := fun hm => Nat.not_lt.2 (F_x0c _ hm) Yw0.lt
  have G_x0c : ∀ y ∈ bx0c_0, w.heap.size ≤ y := fun y hy => Nat.le_trans B.size (F_x0c y hy)
  clear F_x0c
  replace Yw0 := Yw0.keep hb10
  replace B := B.trans (hb10.mono B.size)
  have Yw0a := Yw0.at.1
  have Yw0l := Yw0.lt
  go_wp2_with fail
  clear Yw0a Yw0l
  refine Calls.at (F := fun V => Blk V (w8.heap.size) 40 #[.int .i64 r.xCode, .int .i64 r.xValue] ∧ Below w.heap.size w V ∧ OwMirrorS V (.slice px0c_0 x0.length cx0c_0) x0 bx0c_0) ⟨Yw0, B, x0c⟩ ?_
  clear Yw0 B x0c
  rintro V11 ⟨Yw0, B, x0c⟩
  refine (HI.out _ _ (by exact OwMirrorS.reads x0c)).mono ?_
  rintro e w12 ⟨u, rfl, hu, hb12⟩
  unfold RdIntResult at hu
  subst hu
  replace Yw0 := Yw0.keep hb12
  replace x0c := x0c.keep hb12
  replace B := B.trans (hb12.mono B.size)
  have Yw0a := Yw0.at.1
  have Yw0l := Yw0.lt
  go_wp2_with fail
  clear Yw0a Yw0l
  have nb_Yg0_x0c : w12.heap.size ∉ bx0c_0 := fun hm => Nat.lt_irrefl _ (x0c.lt _ hm)
  refine Calls.at (F := fun V => Blk V (w8.heap.size) 40 #[.int .i64 r.xCode, .int .i64 r.xValue] ∧ Blk V (w12.heap.size) 40 #[.int .i64 r.xCode, .int .i64 r.xValue] ∧ Below w.heap.size w V ∧ OwMirrorS V (.slice px0c_0 x0.length cx0c_0) x0 bx0c_0) ⟨Yw0.alloc _, Blk.new _ _ _, B.alloc B.size _, x0c.alloc _⟩ ?_
  clear Yw0 B x0c
  rintro V13 ⟨Yw0, Yg0, B, x0c⟩
  refine (eqIntResult_rd _ _ r _ (by exact rfl) (by exact rfl)).mono ?_
  rintro e w14 ⟨rfl, hb14⟩
  replace Yw0 := Yw0.keep hb14
  replace Yg0 := Yg0.keep hb14
  replace x0c := x0c.keep hb14
  replace B := B.trans (hb14.mono B.size)
  have Yw0a := Yw0.at.1
  have Yw0l := Yw0.lt
  have Yg0a := Yg0.at.1
  have Yg0l := Yg0.lt
  go_wp2_with fail
  clear Yw0a Yw0l Yg0a Yg0l
  refine Calls.at (F := fun V => Blk V (w8.heap.size) 40 #[.int .i64 r.xCode, .int .i64 r.xValue] ∧ Blk V (w12.heap.size) 40 #[.int .i64 r.xCode, .int .i64 r.xValue] ∧ Below w.heap.size w V ∧ OwMirrorS V (.slice px0c_0 x0.length cx0c_0) x0 bx0c_0) ⟨Yw0, Yg0, B, x0c⟩ ?_
  clear Yw0 Yg0 B x0c
  rintro V15 ⟨Yw0, Yg0, B, x0c⟩
  refine (toMirrorS_ow _ x0 _ (by exact r0.below B) (by omega)).mono ?_
  rintro e w16 ⟨u, by0_0, rfl, y0, fy0_0, hb16⟩
  obtain ⟨py0_0, cy0_0, rfl⟩ := OwMirrorS.value y0
  have F_y0 : ∀ y ∈ by0_0, V15.heap.size ≤ y := fy0_0
  have dj_x0c_y0 : Dj bx0c_0 by0_0 := fun y hy hm => Nat.not_lt.2 (F_y0 y hm) (x0c.lt y hy)
  have nb_Yw0_y0 : w8.heap.size ∉ by0_0 := fun hm => Nat.not_lt.2 (F_y0 _ hm) Yw0.lt
  have nb_Yg0_y0 : w12.heap.size ∉ by0_0 := fun hm => Nat.not_lt.2 (F_y0 _ hm) Yg0.lt
  have G_y0 : ∀ y ∈ by0_0, w.heap.size ≤ y := fun y hy => Nat.le_trans B.size (F_y0 y hy)
  clear F_y0
  replace Yw0 := Yw0.keep hb16
  replace Yg0 := Yg0.keep hb16
  replace x0c := x0c.keep hb16
  replace B := B.trans (hb16.mono B.size)
  have Yw0a := Yw0.at.1
  have Yw0l := Yw0.lt
  have Yg0a := Yg0.at.1
  have Yg0l := Yg0.lt
  go_wp2_with fail
  clear Yw0a Yw0l Yg0a Yg0l
  refine Calls.at (F := fun V => Blk V (w8.heap.size) 40 #[.int .i64 r.xCode, .int .i64 r.xValue] ∧ Blk V (w12.heap.size) 40 #[.int .i64 r.xCode, .int .i64 r.xValue] ∧ Below w.heap.size w V ∧ OwMirrorS V (.slice px0c_0 x0.length cx0c_0) x0 bx0c_0 ∧ OwMirrorS V (.slice py0_0 x0.length cy0_0) x0 by0_0) ⟨Yw0, Yg0, B, x0c, y0⟩ ?_
  clear Yw0 Yg0 B x0c y0
  rintro V17 ⟨Yw0, Yg0, B, x0c, y0⟩
  refine (eqMirrorS_rd _ _ x0 _ (by exact OwMirrorS.reads x0c) (by exact OwMirrorS.reads y0)).mono ?_
  rintro e w18 ⟨rfl, hb18⟩
  replace Yw0 := Yw0.keep hb18
  replace Yg0 := Yg0.keep hb18
  replace x0c := x0c.keep hb18
  replace y0 := y0.keep hb18
  replace B := B.trans (hb18.mono B.size)
  clear y0 G_y0
  have Yw0a := Yw0.at.1
  have Yw0l := Yw0.lt
  have Yg0a := Yg0.at.1
  have Yg0l := Yg0.lt
  go_wp2
  go_ret
  exact ⟨rfl, B⟩
/-! the row's step -/
set_option maxRecDepth 100000 in
theorem lifted (os : Os) (started : os.Started) (H : Type) (enc : TypeId × Value → H) :
    ReturnsInHanded {} Try.checked os 4 .any (Rows.fnExactValueBitsSpec.pre6 enc Try.prog Try.f4 Rows.fnExactValueBitsRow.domain false) (Rows.fnExactValueBitsSpec.post enc Try.prog Try.f4 false true false false) := by
  refine returnsInHanded_of_change (C := Try.checked) own started (by kernel_rfl) Try.func4
    (ChangeSpec.witness6 (enc := enc) (C := Try.checked) false ⟨#[], #[.slice none 0 0, .int .i64 0], []⟩ 8 (by kernel_rfl) (by kernel_rfl) (by kernel_rfl) (by kernel_rfl)) ?_
  intro W base args ds gs before hval0 hW hcnd _
  have hval : ∀ (j : Nat) t v, Try.f4.params[j]? = some t → args[j]? = some v → Value.okWide Try.prog W .any base t v := hval0
  have hW' := hW
  obtain ⟨p, q, hA0, hV, rfl, hfz, hnd⟩ := hW
  have hA : DataW.TrodAll enc Try.prog W 0 (fun _ => true) true Try.f4.params.toList args.toList ds p := hA0
  rw [Try.params4] at hA hval
  obtain ⟨v0, vs0, d0, ds0, p0, q0, hargs, rfl, rfl, h0, r0⟩ := trodAll_cons hA
  obtain ⟨v1, vs1, d1, ds1, p1, q1, rfl, rfl, rfl, h1, r1⟩ := trodAll_cons r0
  obtain ⟨rfl, rfl, rfl⟩ := trodAll_nil r1
  obtain rfl : args = #[v0, v1] := by cases args; simp_all
  obtain ⟨rfl, rfl⟩ := trodVars_none hV
  have k0 := h0
  have lt0 : ∀ x ∈ p0, x.block < W.heap.size := by obtain ⟨m, hm⟩ := k0; exact DataW.trod_lt m _ _ _ hm
  obtain ⟨a0, len0, cap0, rfl⟩ := okWide_slice Try.underlying37 (hval 0 37 v0 rfl rfl)
  obtain ⟨x0, w0⟩ : ∃ y, RdMirrorS W (.slice a0 len0 cap0) y := by
    obtain ⟨fuel, hf⟩ := h0
    obtain ⟨v, y, e, q⟩ := open_MirrorS hf
    obtain rfl : _ = v := by simpa [Value.cells] using e
    exact ⟨y, q⟩
  obtain ⟨a1, rfl, rfl, rfl, w1⟩ := open_int Try.underlying2 (hval 1 2 v1 rfl rfl) h1
  clear hA0 hval0
  refine (walk _ x0 a1 W w0 w1).mono fun e W' ⟨he, bel⟩ => ?_
  subst he
  exact ⟨_, rfl, _, _, _, [], _, [], hW', trodAll_mk1 (shut_bool Try.underlying4 _), (trodAll_cons_mk (Below.trod laidOut (by kernel_rfl) (of_decide_eq_true (by kernel_rfl)) k0 bel lt0) (trodAll_cons_mk (shut_int Try.underlying2 w1) trodAll_mk0)), rfl, bel.frame _, fun h => by cases h⟩

theorem over : Rows.fnExactValueBitsRow.holds Try.pinned (OpenSpec.ofChange Rows.fnExactValueBitsSpec) :=
  OpenClaim.holds_of_wide 4 Try.f4 rfl rfl rfl rfl rfl rfl rfl ⟨rfl, rfl, rfl, rfl, rfl⟩ rfl rfl rfl rfl rfl (by kernel_rfl) Try.func4 (by kernel_rfl)
    (of_decide_eq_true (by kernel_rfl)) (by unfold Func.isWrapper; first | (rw [if_pos (by decide +kernel)]; kernel_rfl) | (rw [if_neg (by decide +kernel)]; exact ⟨rfl, rfl⟩))
    (fun os started H enc _ => lifted os started H enc)

end Go.Proofs.Ytbmemdgeohnpnan.fnExactValueBits
namespace Go.Proofs.Ytbmemdgeohnpnan
theorem fnExactValueBits_holds : Rows.FnExactValueBitsSaid := fnExactValueBits.over
#print axioms fnExactValueBits_holds
end Go.Proofs.Ytbmemdgeohnpnan
