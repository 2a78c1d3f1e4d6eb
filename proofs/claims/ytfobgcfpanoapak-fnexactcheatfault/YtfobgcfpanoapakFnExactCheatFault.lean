/-
  FnExactCheatFault answers true at every cheat: the program's CheatFault answers as its model does.
-/
import Derived.Test.YtfobgcfpanoapakOpen
import Derived.Test.YtfobgcfpanoapakJnC
import Derived.Test.YtfobgcfpanoapakOpen
import Derived.Deep.RegionHeld3
import Derived.Deep.CutRange
import Derived.Deep.Cut
import Derived.Deep.RegionWith
import Derived.ShutString
import Derived.ChangeOld
import Derived.Below
namespace Go.Proofs.Ytfobgcfpanoapak.fnExactCheatFault
open Go.ChangeShapes Go.WideShapes Go.ChangeAt Go.RowKit
open Go.ChangeMaps (open_string shut_string)
set_option linter.unusedVariables false

theorem own : ownKnob Try.prog.godebug = none := by kernel_rfl
theorem laidOut : laidOutB Try.prog = true := by kernel_rfl

set_option maxHeartbeats 4000000 in
set_option maxRecDepth 100000 in
theorem walk (v0 : Value) (x0 : MCheat) (w : World) (r0 : RdCheat w (v0) x0) :
    Calls Try.prog 6 #[v0] w fun e w' => e = .returned (.bool true) ∧ Below w.heap.size w w' := by
  have hv0 := r0
  unfold RdCheat at hv0
  subst hv0
  have r0 : RdCheat w (.agg #[.int .i64 x0.xWho, .int .i64 x0.xAt, .int .i64 x0.xBy, .bool x0.xCry]) x0 := rfl
  have KS : ∀ (V : World) (u0 : Value), RdCheat V (u0) x0 → Calls Try.prog 23 #[u0] V fun e V' => e = .returned (.int .i64 (cheatC x0)) ∧ Below V.heap.size V V' := fun V u0 h => spec_CheatFault _ _ _ h
  have KI : ∀ (V : World) (u0 : Value), RdCheat V (u0) x0 → Calls Try.prog 25 #[u0] V fun e V' => e = .returned (.int .i64 (cheatC x0)) ∧ Below V.heap.size V V' := fun V u0 h => impl_CheatFault _ _ _ h
  obtain ⟨r, HS, HI⟩ : ∃ r : Int, Hid (∀ (V : World) (u0 : Value), RdCheat V (u0) x0 → Calls Try.prog 23 #[u0] V fun e V' => e = .returned (.int .i64 r) ∧ Below V.heap.size V V') ∧ Hid (∀ (V : World) (u0 : Value), RdCheat V (u0) x0 → Calls Try.prog 25 #[u0] V fun e V' => e = .returned (.int .i64 r) ∧ Below V.heap.size V V') := ⟨cheatC x0, KS, KI⟩
  clear KS KI
  go_enter Try.func6, Try.ntmps6
  go_wp2_with fail
  refine Calls.at (F := fun V => Blk V (w.heap.size) 27 #[.int .i64 x0.xWho, .int .i64 x0.xAt, .int .i64 x0.xBy, .bool x0.xCry] ∧ Below w.heap.size w V) ⟨?_, ?_⟩ ?_
  · exact (Blk.new w 27 #[.int .i64 x0.xWho, .int .i64 x0.xAt, .int .i64 x0.xBy, .bool x0.xCry])
  · exact (by repeat (first | exact Below.refl _ _ | refine Below.drew ?_ | refine below_drewN ?_ _ | refine Below.setCell ?_ (by first | omega | (simp; done) | (simp; omega)) _ | refine Below.alloc ?_ (by first | omega | (simp; done) | (simp; omega)) _))
  rintro V1 ⟨X0, B⟩
  refine (toCheat_ow _ x0 _ (by exact rfl)).mono ?_
  rintro e w2 ⟨rfl, hb2⟩
  replace X0 := X0.keep hb2
  replace B := B.trans (hb2.mono B.size)
  have X0a := X0.at.1
  have X0l := X0.lt
  go_wp2_with fail
  clear X0a X0l
  refine Calls.at (F := fun V => Blk V (w.heap.size) 27 #[.int .i64 x0.xWho, .int .i64 x0.xAt, .int .i64 x0.xBy, .bool x0.xCry] ∧ Below w.heap.size w V) ⟨X0, B⟩ ?_
  clear X0 B
  rintro V3 ⟨X0, B⟩
  refine (HS.out _ _ (by exact rfl)).mono ?_
  rintro e w4 ⟨rfl, hb4⟩
  replace X0 := X0.keep hb4
  replace B := B.trans (hb4.mono B.size)
  have X0a := X0.at.1
  have X0l := X0.lt
  go_wp2_with fail
  clear X0a X0l
  refine Calls.at (F := fun V => Blk V (w.heap.size) 27 #[.int .i64 x0.xWho, .int .i64 x0.xAt, .int .i64 x0.xBy, .bool x0.xCry] ∧ Below w.heap.size w V) ⟨X0, B⟩ ?_
  clear X0 B
  rintro V5 ⟨X0, B⟩
  refine (toCheat_ow _ x0 _ (by exact rfl)).mono ?_
  rintro e w6 ⟨rfl, hb6⟩
  replace X0 := X0.keep hb6
  replace B := B.trans (hb6.mono B.size)
  have X0a := X0.at.1
  have X0l := X0.lt
  go_wp2_with fail
  clear X0a X0l
  refine Calls.at (F := fun V => Blk V (w.heap.size) 27 #[.int .i64 x0.xWho, .int .i64 x0.xAt, .int .i64 x0.xBy, .bool x0.xCry] ∧ Below w.heap.size w V) ⟨X0, B⟩ ?_
  clear X0 B
  rintro V7 ⟨X0, B⟩
  refine (HI.out _ _ (by exact rfl)).mono ?_
  rintro e w8 ⟨rfl, hb8⟩
  replace X0 := X0.keep hb8
  replace B := B.trans (hb8.mono B.size)
  have X0a := X0.at.1
  have X0l := X0.lt
  go_wp2
  go_ret
  exact ⟨rfl, B⟩
/-! the row's step -/
set_option maxRecDepth 100000 in
theorem lifted (os : Os) (started : os.Started) (H : Type) (enc : TypeId × Value → H) :
    ReturnsInHanded {} Try.checked os 6 .any (Rows.fnExactCheatFaultSpec.pre6 enc Try.prog Try.f6 Rows.fnExactCheatFaultRow.domain false) (Rows.fnExactCheatFaultSpec.post enc Try.prog Try.f6 false true false false) := by
  refine returnsInHanded_of_change (C := Try.checked) own started (by kernel_rfl) Try.func6
    (ChangeSpec.witness6 (enc := enc) (C := Try.checked) false ⟨#[], #[.agg #[.int .i64 0, .int .i64 0, .int .i64 0, .bool false]], []⟩ 8 (by kernel_rfl) (by kernel_rfl) (by kernel_rfl) (by kernel_rfl)) ?_
  intro W base args ds gs before hval0 hW hcnd _
  have hval : ∀ (j : Nat) t v, Try.f6.params[j]? = some t → args[j]? = some v → Value.okWide Try.prog W .any base t v := hval0
  have hW' := hW
  obtain ⟨p, q, hA0, hV, rfl, hfz, hnd⟩ := hW
  have hA : DataW.TrodAll enc Try.prog W 0 (fun _ => true) true Try.f6.params.toList args.toList ds p := hA0
  rw [Try.params6] at hA hval
  obtain ⟨v0, vs0, d0, ds0, p0, q0, hargs, rfl, rfl, h0, r0⟩ := trodAll_cons hA
  obtain ⟨rfl, rfl, rfl⟩ := trodAll_nil r0
  obtain rfl : args = #[v0] := by cases args; simp_all
  obtain ⟨rfl, rfl⟩ := trodVars_none hV
  have k0 := h0
  have lt0 : ∀ x ∈ p0, x.block < W.heap.size := by obtain ⟨m, hm⟩ := k0; exact DataW.trod_lt m _ _ _ hm
  obtain ⟨cs0, rfl, _⟩ := okWide_struct Try.underlying27 (hval 0 27 v0 rfl rfl)
  obtain ⟨x0, w0⟩ : ∃ y, RdCheat W (.agg cs0) y := by
    obtain ⟨fuel, hf⟩ := h0
    obtain ⟨y, q⟩ := open_Cheat hf
    exact ⟨y, by simpa [Value.cells] using q⟩
  clear hA0 hval0
  refine (walk _ x0 W w0).mono fun e W' ⟨he, bel⟩ => ?_
  subst he
  exact ⟨_, rfl, _, _, _, [], _, [], hW', trodAll_mk1 (shut_bool Try.underlying4 _), (trodAll_cons_mk (Below.trod laidOut (by kernel_rfl) (of_decide_eq_true (by kernel_rfl)) k0 bel lt0) trodAll_mk0), rfl, bel.frame _, fun h => by cases h⟩

theorem over : Rows.fnExactCheatFaultRow.holds Try.pinned (OpenSpec.ofChange Rows.fnExactCheatFaultSpec) :=
  OpenClaim.holds_of_wide 6 Try.f6 rfl rfl rfl rfl rfl rfl rfl ⟨rfl, rfl, rfl, rfl, rfl⟩ rfl rfl rfl rfl rfl (by kernel_rfl) Try.func6 (by kernel_rfl)
    (of_decide_eq_true (by kernel_rfl)) (by unfold Func.isWrapper; first | (rw [if_pos (by decide +kernel)]; kernel_rfl) | (rw [if_neg (by decide +kernel)]; exact ⟨rfl, rfl⟩))
    (fun os started H enc _ => lifted os started H enc)

end Go.Proofs.Ytfobgcfpanoapak.fnExactCheatFault
namespace Go.Proofs.Ytfobgcfpanoapak
theorem fnExactCheatFault_holds : Rows.FnExactCheatFaultSaid := fnExactCheatFault.over
#print axioms fnExactCheatFault_holds
end Go.Proofs.Ytfobgcfpanoapak
