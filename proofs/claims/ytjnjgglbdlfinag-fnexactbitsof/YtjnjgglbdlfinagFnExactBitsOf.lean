/-
  FnExactBitsOf answers true at every whole number: the program's BitsOf answers as its model does, and each answer owns its memory.
-/
import Derived.Test.YtjnjgglbdlfinagBits
import Derived.ShutString
import Derived.ChangeOld
import Derived.Below
namespace Go.Proofs.Ytjnjgglbdlfinag.fnExactBitsOf
open Go.ChangeShapes Go.WideShapes Go.ChangeAt Go.RowKit
open Go.ChangeMaps (open_string shut_string)
set_option linter.unusedVariables false

theorem own : ownKnob Try.prog.godebug = none := by kernel_rfl

set_option maxHeartbeats 1000000 in
theorem walk (a0 : Int) (w : World) (w0 : (Lit.int .i64 a0).wf = true) :
    Calls Try.prog 8 #[.int .i64 a0] w fun e w' => e = .returned (.bool true) ∧ Below w.heap.size w w' := by
  have hL := bitsL_length a0
  go_enter Try.func8, Try.ntmps8
  go_wp2_with fail
  refine (spec_BitsOf _ _).mono ?_
  rintro e w1 ⟨l0, bs0, rfl, i0, g0, hb1⟩
  obtain ⟨p0, k0, rfl⟩ := Own.value i0
  go_wp2_with fail
  refine (impl_BitsOf _ _).mono ?_
  rintro e w2 ⟨l1, bs1, rfl, i1, g1, hb2⟩
  obtain ⟨p1, k1, rfl⟩ := Own.value i1
  have A2 := (Blk.new w1 31 #[.int .i64 (sgC a0), .slice p0 (bitsL a0).length k0]).keep hb2
  have i02 := Own.keep (Own.alloc i0 (.cells #[.int .i64 (sgC a0), .slice p0 (bitsL a0).length k0] 31)) hb2
  have lt0 := Own.lt i0
  have lt1 := Own.lt i1
  have z1 : w1.heap.size < w2.heap.size := by have := hb2.size; simp at this; omega
  have g1' : ∀ g ∈ bs1, w1.heap.size < g := fun g hg => by have := g1 g hg; simp at this; omega
  clear g1
  have a1 := A2.at.1
  go_wp2_with fail
  clear a1
  have A3 := A2.alloc (.cells #[.int .i64 (sgC a0), .slice p1 (bitsL a0).length k1] 31)
  have B3 := Blk.new w2 31 #[.int .i64 (sgC a0), .slice p1 (bitsL a0).length k1]
  have i03 := Own.alloc i02 (.cells #[.int .i64 (sgC a0), .slice p1 (bitsL a0).length k1] 31)
  have i13 := Own.alloc i1 (.cells #[.int .i64 (sgC a0), .slice p1 (bitsL a0).length k1] 31)
  refine (eqIntsResult_same _ _ _ _ _ (Ints.reads i13) (Ints.reads i03)).mono ?_
  rintro e w3 ⟨rfl, hb3⟩
  have z3 : w2.heap.size < w3.heap.size := by have := hb3.size; simp at this; omega
  have A4 := A3.keep hb3
  have B4 := B3.keep hb3
  have i04 := Own.keep i03 hb3
  have i14 := Own.keep i13 hb3
  clear A2 A3 B3 i02 i03 i13
  have b1 := B4.at.1
  go_wp2_with fail
  clear b1
  refine (markIntsResult_all _ _ _ _ _ _ i14 (by omega) (by omega) (by omega)).mono ?_
  rintro e w4 ⟨rfl, m4, o4⟩
  have nA : w1.heap.size ∉ bs1 := fun hm => by have := g1' _ hm; omega
  have nB : w2.heap.size ∉ bs1 := fun hm => by have := lt1 _ hm; omega
  have A5 := A4.off o4 nA
  have B5 := B4.off o4 nB
  have i05 := Own.off i04 o4 (fun g hg hm => by have := lt0 g hg; have := g1' g hm; omega)
  clear A4 B4 i04 i14
  have b1 := B5.at.1
  go_wp2_with fail
  clear b1
  refine (heldIntsResult_all _ _ _ _ _ (Ints.reads m4) (by omega) (by omega) (by omega)).mono ?_
  rintro e w5 ⟨rfl, hb5⟩
  have z5 := hb5.size
  have z4 := o4.size
  have A6 := A5.keep hb5
  have B6 := B5.keep hb5
  have i06 := Own.keep i05 hb5
  have m6 := Ints.keep m4 hb5
  clear A5 B5 i05 m4
  go_wp2_with fail
  refine (impl_BitsOf _ _).mono ?_
  rintro e w6 ⟨l2, bs2, rfl, i2, g2, hb6⟩
  obtain ⟨p2, k2, rfl⟩ := Own.value i2
  have z6 := hb6.size
  have A7 := A6.keep hb6
  have B7 := B6.keep hb6
  have i07 := Own.keep i06 hb6
  have m7 := Ints.keep m6 hb6
  clear A6 B6 i06 m6
  have a1 := A7.at.1
  have y1 : w1.heap.size < w6.heap.size := by omega
  go_wp2_with fail
  clear a1
  have A8 := A7.alloc (.cells #[.int .i64 (sgC a0), .slice p2 (bitsL a0).length k2] 31)
  have B8 := B7.alloc (.cells #[.int .i64 (sgC a0), .slice p2 (bitsL a0).length k2] 31)
  have i08 := Own.alloc i07 (.cells #[.int .i64 (sgC a0), .slice p2 (bitsL a0).length k2] 31)
  have i28 := Own.alloc i2 (.cells #[.int .i64 (sgC a0), .slice p2 (bitsL a0).length k2] 31)
  have m8 := Own.alloc m7 (.cells #[.int .i64 (sgC a0), .slice p2 (bitsL a0).length k2] 31)
  refine (eqIntsResult_same _ _ _ _ _ (Ints.reads i28) (Ints.reads i08)).mono ?_
  rintro e w7 ⟨rfl, hb7⟩
  have B9 := B8.keep hb7
  have m9 := Ints.keep m8 hb7
  clear A7 B7 i07 m7 A8 B8 i08 i28 m8
  have b1 := B9.at.1
  go_wp2_with fail
  clear b1
  refine (heldIntsResult_all _ _ _ _ _ (Ints.reads m9) (by omega) (by omega) (by omega)).mono ?_
  rintro e w8 ⟨rfl, hb8⟩
  go_wp2
  go_ret
  have q3 : Below w.heap.size w w3 := (by have zz0 := (hb3).size; (try simp at zz0); have zz1 := (hb2).size; (try simp at zz1); have zz2 := (hb1).size; (try simp at zz2); repeat (first | exact Below.refl _ _ | refine Below.drew ?_ | refine Below.setCell ?_ (by first | omega | (simp; done) | (simp; omega)) _ | refine Below.alloc ?_ (by first | omega | (simp; done) | (simp; omega)) _ | refine bcall ?_ hb3 (by first | omega | (simp; done) | (simp; omega)) | refine bcall ?_ hb2 (by first | omega | (simp; done) | (simp; omega)) | refine bcall ?_ hb1 (by first | omega | (simp; done) | (simp; omega))))
  have q4 : Below w.heap.size w w4 := q3.trans (o4.toBelow (by have := q3.size; omega) (fun g hg => by have := g1' g hg; have := hb1.size; omega))
  exact ⟨rfl, by
    have x4 := q4.size
    exact (by have zz0 := (hb8).size; (try simp at zz0); have zz1 := (hb7).size; (try simp at zz1); have zz2 := (hb6).size; (try simp at zz2); have zz3 := (hb5).size; (try simp at zz3); have zz4 := (q4).size; (try simp at zz4); repeat (first | exact Below.refl _ _ | refine Below.drew ?_ | refine Below.setCell ?_ (by first | omega | (simp; done) | (simp; omega)) _ | refine Below.alloc ?_ (by first | omega | (simp; done) | (simp; omega)) _ | refine bcall ?_ hb8 (by first | omega | (simp; done) | (simp; omega)) | refine bcall ?_ hb7 (by first | omega | (simp; done) | (simp; omega)) | refine bcall ?_ hb6 (by first | omega | (simp; done) | (simp; omega)) | refine bcall ?_ hb5 (by first | omega | (simp; done) | (simp; omega)) | refine bcall ?_ q4 (by first | omega | (simp; done) | (simp; omega))))⟩

/-! the row's step -/
set_option maxRecDepth 100000 in
theorem lifted (os : Os) (started : os.Started) (H : Type) (enc : TypeId × Value → H) :
    ReturnsInHanded {} Try.checked os 8 .any (Rows.fnExactBitsOfSpec.pre6 enc Try.prog Try.f8 Rows.fnExactBitsOfRow.domain false) (Rows.fnExactBitsOfSpec.post enc Try.prog Try.f8 false true false false) := by
  refine returnsInHanded_of_change (C := Try.checked) own started (by kernel_rfl) Try.func8
    (ChangeSpec.witness6 (enc := enc) (C := Try.checked) false ⟨#[], #[.int .i64 0], []⟩ 8 (by kernel_rfl) (by kernel_rfl) (by kernel_rfl) (by kernel_rfl)) ?_
  intro W base args ds gs before hval0 hW hcnd _
  have hval : ∀ (j : Nat) t v, Try.f8.params[j]? = some t → args[j]? = some v → Value.okWide Try.prog W .any base t v := hval0
  have hW' := hW
  obtain ⟨p, q, hA0, hV, rfl, hfz, hnd⟩ := hW
  have hA : DataW.TrodAll enc Try.prog W 0 (fun _ => true) true Try.f8.params.toList args.toList ds p := hA0
  rw [Try.params8] at hA hval
  obtain ⟨v0, vs0, d0, ds0, p0, q0, hargs, rfl, rfl, h0, r0⟩ := trodAll_cons hA
  obtain ⟨rfl, rfl, rfl⟩ := trodAll_nil r0
  obtain rfl : args = #[v0] := by cases args; simp_all
  obtain ⟨rfl, rfl⟩ := trodVars_none hV
  obtain ⟨a0, rfl, rfl, rfl, w0⟩ := open_int Try.underlying2 (hval 0 2 v0 rfl rfl) h0
  clear hA0 hval0
  refine (walk a0 W w0).mono fun e W' ⟨he, bel⟩ => ?_
  subst he
  exact ⟨_, rfl, _, _, _, [], _, [], hW', trodAll_mk1 (shut_bool Try.underlying4 _), (trodAll_cons_mk (shut_int Try.underlying2 w0) trodAll_mk0), rfl, bel.frame _, fun h => by cases h⟩

theorem over : Rows.fnExactBitsOfRow.holds Try.pinned (OpenSpec.ofChange Rows.fnExactBitsOfSpec) :=
  OpenClaim.holds_of_wide 8 Try.f8 rfl rfl rfl rfl rfl rfl rfl ⟨rfl, rfl, rfl, rfl, rfl⟩ rfl rfl rfl rfl rfl (by kernel_rfl) Try.func8 (by kernel_rfl)
    (of_decide_eq_true (by kernel_rfl)) (by unfold Func.isWrapper; first | (rw [if_pos (by decide +kernel)]; kernel_rfl) | (rw [if_neg (by decide +kernel)]; exact ⟨rfl, rfl⟩))
    (fun os started H enc _ => lifted os started H enc)

end Go.Proofs.Ytjnjgglbdlfinag.fnExactBitsOf
namespace Go.Proofs.Ytjnjgglbdlfinag
theorem fnExactBitsOf_holds : Rows.FnExactBitsOfSaid := fnExactBitsOf.over
#print axioms fnExactBitsOf_holds
end Go.Proofs.Ytjnjgglbdlfinag
