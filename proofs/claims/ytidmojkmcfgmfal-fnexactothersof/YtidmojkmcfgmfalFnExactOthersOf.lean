/-
  FnExactOthersOf answers true at every two whole numbers: the program's OthersOf answers as its model does.
-/
import Derived.Test.YtidmojkmcfgmfalOpen
import Derived.Test.YtidmojkmcfgmfalDotA
import Derived.Test.YtidmojkmcfgmfalOpen
import Derived.Deep.RegionHeld3
import Derived.Deep.CutRange
import Derived.Deep.Cut
import Derived.Deep.RegionWith
import Derived.ShutString
import Derived.ChangeOld
import Derived.Below
namespace Go.Proofs.Ytidmojkmcfgmfal.fnExactOthersOf
open Go.ChangeShapes Go.WideShapes Go.ChangeAt Go.RowKit
open Go.ChangeMaps (open_string shut_string)
set_option linter.unusedVariables false

theorem own : ownKnob Try.prog.godebug = none := by kernel_rfl
theorem laidOut : laidOutB Try.prog = true := by kernel_rfl

set_option maxHeartbeats 4000000 in
set_option maxRecDepth 100000 in
theorem walk (a0 : Int) (a1 : Int) (w : World)  (w0 : (Lit.int .i64 a0).wf = true) (w1 : (Lit.int .i64 a1).wf = true) :
    Calls Try.prog 3 #[.int .i64 a0, .int .i64 a1] w fun e w' => e = .returned (.bool true) ∧ Below w.heap.size w w' := by
  have KS : ∀ (V : World), Calls Try.prog 4 #[.int .i64 a0, .int .i64 a1] V fun e V' => ∃ u, e = .returned u ∧ RdPairResult V' u (othersR a0 a1) ∧ Below V.heap.size V V' := fun V => spec_OthersOf _ _ _
  have KI : ∀ (V : World), Calls Try.prog 5 #[.int .i64 a0, .int .i64 a1] V fun e V' => ∃ u, e = .returned u ∧ RdPairResult V' u (othersR a0 a1) ∧ Below V.heap.size V V' := fun V => impl_OthersOf _ _ _
  obtain ⟨r, HS, HI⟩ : ∃ r : MPairResult, Hid (∀ (V : World), Calls Try.prog 4 #[.int .i64 a0, .int .i64 a1] V fun e V' => ∃ u, e = .returned u ∧ RdPairResult V' u r ∧ Below V.heap.size V V') ∧ Hid (∀ (V : World), Calls Try.prog 5 #[.int .i64 a0, .int .i64 a1] V fun e V' => ∃ u, e = .returned u ∧ RdPairResult V' u r ∧ Below V.heap.size V V') := ⟨othersR a0 a1, KS, KI⟩
  clear KS KI
  go_enter Try.func3, Try.ntmps3
  go_wp2_with fail
  refine Calls.at (F := fun V => Below w.heap.size w V) (Below.refl _ _) ?_
  rintro V1 B
  refine (HS.out _ ).mono ?_
  rintro e w2 ⟨u, rfl, hu, hb2⟩
  unfold RdPairResult at hu
  subst hu
  replace B := B.trans (hb2.mono B.size)
  go_wp2_with fail
  refine Calls.at (F := fun V => Blk V (w2.heap.size) 23 #[.int .i64 r.xCode, .int .i64 r.xFirst, .int .i64 r.xSecond] ∧ Below w.heap.size w V) ⟨Blk.new _ _ _, B.alloc B.size _⟩ ?_
  clear B
  rintro V3 ⟨Yw0, B⟩
  refine (HI.out _ ).mono ?_
  rintro e w4 ⟨u, rfl, hu, hb4⟩
  unfold RdPairResult at hu
  subst hu
  replace Yw0 := Yw0.keep hb4
  replace B := B.trans (hb4.mono B.size)
  have Yw0a := Yw0.at.1
  have Yw0l := Yw0.lt
  go_wp2_with fail
  clear Yw0a Yw0l
  refine Calls.at (F := fun V => Blk V (w2.heap.size) 23 #[.int .i64 r.xCode, .int .i64 r.xFirst, .int .i64 r.xSecond] ∧ Blk V (w4.heap.size) 23 #[.int .i64 r.xCode, .int .i64 r.xFirst, .int .i64 r.xSecond] ∧ Below w.heap.size w V) ⟨Yw0.alloc _, Blk.new _ _ _, B.alloc B.size _⟩ ?_
  clear Yw0 B
  rintro V5 ⟨Yw0, Yg0, B⟩
  refine (eqPairResult_rd _ _ r _ (by exact rfl) (by exact rfl)).mono ?_
  rintro e w6 ⟨rfl, hb6⟩
  replace Yw0 := Yw0.keep hb6
  replace Yg0 := Yg0.keep hb6
  replace B := B.trans (hb6.mono B.size)
  have Yw0a := Yw0.at.1
  have Yw0l := Yw0.lt
  have Yg0a := Yg0.at.1
  have Yg0l := Yg0.lt
  go_wp2
  go_ret
  exact ⟨rfl, B⟩
/-! the row's step -/
set_option maxRecDepth 100000 in
theorem lifted (os : Os) (started : os.Started) (H : Type) (enc : TypeId × Value → H) :
    ReturnsInHanded {} Try.checked os 3 .any (Rows.fnExactOthersOfSpec.pre6 enc Try.prog Try.f3 Rows.fnExactOthersOfRow.domain false) (Rows.fnExactOthersOfSpec.post enc Try.prog Try.f3 false true false false) := by
  refine returnsInHanded_of_change (C := Try.checked) own started (by kernel_rfl) Try.func3
    (ChangeSpec.witness6 (enc := enc) (C := Try.checked) false ⟨#[], #[.int .i64 0, .int .i64 0], []⟩ 8 (by kernel_rfl) (by kernel_rfl) (by kernel_rfl) (by kernel_rfl)) ?_
  intro W base args ds gs before hval0 hW hcnd _
  have hval : ∀ (j : Nat) t v, Try.f3.params[j]? = some t → args[j]? = some v → Value.okWide Try.prog W .any base t v := hval0
  have hW' := hW
  obtain ⟨p, q, hA0, hV, rfl, hfz, hnd⟩ := hW
  have hA : DataW.TrodAll enc Try.prog W 0 (fun _ => true) true Try.f3.params.toList args.toList ds p := hA0
  rw [Try.params3] at hA hval
  obtain ⟨v0, vs0, d0, ds0, p0, q0, hargs, rfl, rfl, h0, r0⟩ := trodAll_cons hA
  obtain ⟨v1, vs1, d1, ds1, p1, q1, rfl, rfl, rfl, h1, r1⟩ := trodAll_cons r0
  obtain ⟨rfl, rfl, rfl⟩ := trodAll_nil r1
  obtain rfl : args = #[v0, v1] := by cases args; simp_all
  obtain ⟨rfl, rfl⟩ := trodVars_none hV
  obtain ⟨a0, rfl, rfl, rfl, w0⟩ := open_int Try.underlying2 (hval 0 2 v0 rfl rfl) h0
  obtain ⟨a1, rfl, rfl, rfl, w1⟩ := open_int Try.underlying2 (hval 1 2 v1 rfl rfl) h1
  clear hA0 hval0
  refine (walk a0 a1 W w0 w1).mono fun e W' ⟨he, bel⟩ => ?_
  subst he
  exact ⟨_, rfl, _, _, _, [], _, [], hW', trodAll_mk1 (shut_bool Try.underlying4 _), (trodAll_cons_mk (shut_int Try.underlying2 w0) (trodAll_cons_mk (shut_int Try.underlying2 w1) trodAll_mk0)), rfl, bel.frame _, fun h => by cases h⟩

theorem over : Rows.fnExactOthersOfRow.holds Try.pinned (OpenSpec.ofChange Rows.fnExactOthersOfSpec) :=
  OpenClaim.holds_of_wide 3 Try.f3 rfl rfl rfl rfl rfl rfl rfl ⟨rfl, rfl, rfl, rfl, rfl⟩ rfl rfl rfl rfl rfl (by kernel_rfl) Try.func3 (by kernel_rfl)
    (of_decide_eq_true (by kernel_rfl)) (by unfold Func.isWrapper; first | (rw [if_pos (by decide +kernel)]; kernel_rfl) | (rw [if_neg (by decide +kernel)]; exact ⟨rfl, rfl⟩))
    (fun os started H enc _ => lifted os started H enc)

end Go.Proofs.Ytidmojkmcfgmfal.fnExactOthersOf
namespace Go.Proofs.Ytidmojkmcfgmfal
theorem fnExactOthersOf_holds : Rows.FnExactOthersOfSaid := fnExactOthersOf.over
#print axioms fnExactOthersOf_holds
end Go.Proofs.Ytidmojkmcfgmfal
