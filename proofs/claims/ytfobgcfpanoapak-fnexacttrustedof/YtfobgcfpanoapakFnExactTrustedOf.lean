/-
  FnExactTrustedOf answers true at every quarrel: the program's TrustedOf answers as its model does.
-/
import Derived.Test.YtfobgcfpanoapakOpen
import Derived.Test.YtfobgcfpanoapakJnT
import Derived.Test.YtfobgcfpanoapakOpen
import Derived.Deep.RegionHeld3
import Derived.Deep.CutRange
import Derived.Deep.Cut
import Derived.Deep.RegionWith
import Derived.ShutString
import Derived.ChangeOld
import Derived.Below
namespace Go.Proofs.Ytfobgcfpanoapak.fnExactTrustedOf
open Go.ChangeShapes Go.WideShapes Go.ChangeAt Go.RowKit
open Go.ChangeMaps (open_string shut_string)
set_option linter.unusedVariables false

theorem own : ownKnob Try.prog.godebug = none := by kernel_rfl
theorem laidOut : laidOutB Try.prog = true := by kernel_rfl

set_option maxHeartbeats 4000000 in
set_option maxRecDepth 100000 in
theorem walk (v0 : Value) (x0 : MQuarrel) (w : World) (r0 : RdQuarrel w (v0) x0) :
    Calls Try.prog 5 #[v0] w fun e w' => e = .returned (.bool true) ∧ Below w.heap.size w w' := by
  have hv0 := r0
  unfold RdQuarrel at hv0
  subst hv0
  have r0 : RdQuarrel w (.agg #[.bool x0.xSome, .int .i64 x0.xFrom, .int .i64 x0.xCheck, .int .i64 x0.xTo, .int .i64 x0.xTold, .int .i64 x0.xHeard, .int .i64 x0.xOther, .int .i64 x0.xVowed]) x0 := rfl
  have KS : ∀ (V : World) (u0 : Value), RdQuarrel V (u0) x0 → Calls Try.prog 20 #[u0] V fun e V' => ∃ u, e = .returned u ∧ RdIntResult V' u (trustR x0) ∧ Below V.heap.size V V' := fun V u0 h => spec_TrustedOf _ _ _ h
  have KI : ∀ (V : World) (u0 : Value), RdQuarrel V (u0) x0 → Calls Try.prog 21 #[u0] V fun e V' => ∃ u, e = .returned u ∧ RdIntResult V' u (trustR x0) ∧ Below V.heap.size V V' := fun V u0 h => impl_TrustedOf _ _ _ h
  obtain ⟨r, HS, HI⟩ : ∃ r : MIntResult, Hid (∀ (V : World) (u0 : Value), RdQuarrel V (u0) x0 → Calls Try.prog 20 #[u0] V fun e V' => ∃ u, e = .returned u ∧ RdIntResult V' u r ∧ Below V.heap.size V V') ∧ Hid (∀ (V : World) (u0 : Value), RdQuarrel V (u0) x0 → Calls Try.prog 21 #[u0] V fun e V' => ∃ u, e = .returned u ∧ RdIntResult V' u r ∧ Below V.heap.size V V') := ⟨trustR x0, KS, KI⟩
  clear KS KI
  go_enter Try.func5, Try.ntmps5
  go_wp2_with fail
  refine Calls.at (F := fun V => Blk V (w.heap.size) 29 #[.bool x0.xSome, .int .i64 x0.xFrom, .int .i64 x0.xCheck, .int .i64 x0.xTo, .int .i64 x0.xTold, .int .i64 x0.xHeard, .int .i64 x0.xOther, .int .i64 x0.xVowed] ∧ Below w.heap.size w V) ⟨?_, ?_⟩ ?_
  · exact (Blk.new w 29 #[.bool x0.xSome, .int .i64 x0.xFrom, .int .i64 x0.xCheck, .int .i64 x0.xTo, .int .i64 x0.xTold, .int .i64 x0.xHeard, .int .i64 x0.xOther, .int .i64 x0.xVowed])
  · exact (by repeat (first | exact Below.refl _ _ | refine Below.drew ?_ | refine below_drewN ?_ _ | refine Below.setCell ?_ (by first | omega | (simp; done) | (simp; omega)) _ | refine Below.alloc ?_ (by first | omega | (simp; done) | (simp; omega)) _))
  rintro V1 ⟨X0, B⟩
  refine (toQuarrel_ow _ x0 _ (by exact rfl)).mono ?_
  rintro e w2 ⟨rfl, hb2⟩
  replace X0 := X0.keep hb2
  replace B := B.trans (hb2.mono B.size)
  have X0a := X0.at.1
  have X0l := X0.lt
  go_wp2_with fail
  clear X0a X0l
  refine Calls.at (F := fun V => Blk V (w.heap.size) 29 #[.bool x0.xSome, .int .i64 x0.xFrom, .int .i64 x0.xCheck, .int .i64 x0.xTo, .int .i64 x0.xTold, .int .i64 x0.xHeard, .int .i64 x0.xOther, .int .i64 x0.xVowed] ∧ Below w.heap.size w V) ⟨X0, B⟩ ?_
  clear X0 B
  rintro V3 ⟨X0, B⟩
  refine (HS.out _ _ (by exact rfl)).mono ?_
  rintro e w4 ⟨u, rfl, hu, hb4⟩
  unfold RdIntResult at hu
  subst hu
  replace X0 := X0.keep hb4
  replace B := B.trans (hb4.mono B.size)
  have X0a := X0.at.1
  have X0l := X0.lt
  go_wp2_with fail
  clear X0a X0l
  refine Calls.at (F := fun V => Blk V (w.heap.size) 29 #[.bool x0.xSome, .int .i64 x0.xFrom, .int .i64 x0.xCheck, .int .i64 x0.xTo, .int .i64 x0.xTold, .int .i64 x0.xHeard, .int .i64 x0.xOther, .int .i64 x0.xVowed] ∧ Blk V (w4.heap.size) 54 #[.int .i64 r.xCode, .int .i64 r.xValue] ∧ Below w.heap.size w V) ⟨X0.alloc _, Blk.new _ _ _, B.alloc B.size _⟩ ?_
  clear X0 B
  rintro V5 ⟨X0, Yw0, B⟩
  refine (toQuarrel_ow _ x0 _ (by exact rfl)).mono ?_
  rintro e w6 ⟨rfl, hb6⟩
  replace X0 := X0.keep hb6
  replace Yw0 := Yw0.keep hb6
  replace B := B.trans (hb6.mono B.size)
  have X0a := X0.at.1
  have X0l := X0.lt
  have Yw0a := Yw0.at.1
  have Yw0l := Yw0.lt
  go_wp2_with fail
  clear X0a X0l Yw0a Yw0l
  refine Calls.at (F := fun V => Blk V (w.heap.size) 29 #[.bool x0.xSome, .int .i64 x0.xFrom, .int .i64 x0.xCheck, .int .i64 x0.xTo, .int .i64 x0.xTold, .int .i64 x0.xHeard, .int .i64 x0.xOther, .int .i64 x0.xVowed] ∧ Blk V (w4.heap.size) 54 #[.int .i64 r.xCode, .int .i64 r.xValue] ∧ Below w.heap.size w V) ⟨X0, Yw0, B⟩ ?_
  clear X0 Yw0 B
  rintro V7 ⟨X0, Yw0, B⟩
  refine (HI.out _ _ (by exact rfl)).mono ?_
  rintro e w8 ⟨u, rfl, hu, hb8⟩
  unfold RdIntResult at hu
  subst hu
  replace X0 := X0.keep hb8
  replace Yw0 := Yw0.keep hb8
  replace B := B.trans (hb8.mono B.size)
  have X0a := X0.at.1
  have X0l := X0.lt
  have Yw0a := Yw0.at.1
  have Yw0l := Yw0.lt
  go_wp2_with fail
  clear X0a X0l Yw0a Yw0l
  refine Calls.at (F := fun V => Blk V (w.heap.size) 29 #[.bool x0.xSome, .int .i64 x0.xFrom, .int .i64 x0.xCheck, .int .i64 x0.xTo, .int .i64 x0.xTold, .int .i64 x0.xHeard, .int .i64 x0.xOther, .int .i64 x0.xVowed] ∧ Blk V (w4.heap.size) 54 #[.int .i64 r.xCode, .int .i64 r.xValue] ∧ Blk V (w8.heap.size) 54 #[.int .i64 r.xCode, .int .i64 r.xValue] ∧ Below w.heap.size w V) ⟨X0.alloc _, Yw0.alloc _, Blk.new _ _ _, B.alloc B.size _⟩ ?_
  clear X0 Yw0 B
  rintro V9 ⟨X0, Yw0, Yg0, B⟩
  refine (eqIntResult_rd _ _ r _ (by exact rfl) (by exact rfl)).mono ?_
  rintro e w10 ⟨rfl, hb10⟩
  replace X0 := X0.keep hb10
  replace Yw0 := Yw0.keep hb10
  replace Yg0 := Yg0.keep hb10
  replace B := B.trans (hb10.mono B.size)
  have X0a := X0.at.1
  have X0l := X0.lt
  have Yw0a := Yw0.at.1
  have Yw0l := Yw0.lt
  have Yg0a := Yg0.at.1
  have Yg0l := Yg0.lt
  go_wp2
  go_ret
  exact ⟨rfl, B⟩
/-! the row's step -/
set_option maxRecDepth 100000 in
theorem lifted (os : Os) (started : os.Started) (H : Type) (enc : TypeId × Value → H) :
    ReturnsInHanded {} Try.checked os 5 .any (Rows.fnExactTrustedOfSpec.pre6 enc Try.prog Try.f5 Rows.fnExactTrustedOfRow.domain false) (Rows.fnExactTrustedOfSpec.post enc Try.prog Try.f5 false true false false) := by
  refine returnsInHanded_of_change (C := Try.checked) own started (by kernel_rfl) Try.func5
    (ChangeSpec.witness6 (enc := enc) (C := Try.checked) false ⟨#[], #[.agg #[.bool false, .int .i64 0, .int .i64 0, .int .i64 0, .int .i64 0, .int .i64 0, .int .i64 0, .int .i64 0]], []⟩ 8 (by kernel_rfl) (by kernel_rfl) (by kernel_rfl) (by kernel_rfl)) ?_
  intro W base args ds gs before hval0 hW hcnd _
  have hval : ∀ (j : Nat) t v, Try.f5.params[j]? = some t → args[j]? = some v → Value.okWide Try.prog W .any base t v := hval0
  have hW' := hW
  obtain ⟨p, q, hA0, hV, rfl, hfz, hnd⟩ := hW
  have hA : DataW.TrodAll enc Try.prog W 0 (fun _ => true) true Try.f5.params.toList args.toList ds p := hA0
  rw [Try.params5] at hA hval
  obtain ⟨v0, vs0, d0, ds0, p0, q0, hargs, rfl, rfl, h0, r0⟩ := trodAll_cons hA
  obtain ⟨rfl, rfl, rfl⟩ := trodAll_nil r0
  obtain rfl : args = #[v0] := by cases args; simp_all
  obtain ⟨rfl, rfl⟩ := trodVars_none hV
  have k0 := h0
  have lt0 : ∀ x ∈ p0, x.block < W.heap.size := by obtain ⟨m, hm⟩ := k0; exact DataW.trod_lt m _ _ _ hm
  obtain ⟨cs0, rfl, _⟩ := okWide_struct Try.underlying29 (hval 0 29 v0 rfl rfl)
  obtain ⟨x0, w0⟩ : ∃ y, RdQuarrel W (.agg cs0) y := by
    obtain ⟨fuel, hf⟩ := h0
    obtain ⟨y, q⟩ := open_Quarrel hf
    exact ⟨y, by simpa [Value.cells] using q⟩
  clear hA0 hval0
  refine (walk _ x0 W w0).mono fun e W' ⟨he, bel⟩ => ?_
  subst he
  exact ⟨_, rfl, _, _, _, [], _, [], hW', trodAll_mk1 (shut_bool Try.underlying4 _), (trodAll_cons_mk (Below.trod laidOut (by kernel_rfl) (of_decide_eq_true (by kernel_rfl)) k0 bel lt0) trodAll_mk0), rfl, bel.frame _, fun h => by cases h⟩

theorem over : Rows.fnExactTrustedOfRow.holds Try.pinned (OpenSpec.ofChange Rows.fnExactTrustedOfSpec) :=
  OpenClaim.holds_of_wide 5 Try.f5 rfl rfl rfl rfl rfl rfl rfl ⟨rfl, rfl, rfl, rfl, rfl⟩ rfl rfl rfl rfl rfl (by kernel_rfl) Try.func5 (by kernel_rfl)
    (of_decide_eq_true (by kernel_rfl)) (by unfold Func.isWrapper; first | (rw [if_pos (by decide +kernel)]; kernel_rfl) | (rw [if_neg (by decide +kernel)]; exact ⟨rfl, rfl⟩))
    (fun os started H enc _ => lifted os started H enc)

end Go.Proofs.Ytfobgcfpanoapak.fnExactTrustedOf
namespace Go.Proofs.Ytfobgcfpanoapak
theorem fnExactTrustedOf_holds : Rows.FnExactTrustedOfSaid := fnExactTrustedOf.over
#print axioms fnExactTrustedOf_holds
end Go.Proofs.Ytfobgcfpanoapak
