/-
  FnExactFromBits answers true at every list of whole numbers: the program's FromBits answers as its model does, and writes into no argument.
-/
import Derived.Test.YtadppilldijijahFrom
import Derived.Deep.RegionHeld3
import Derived.Deep.CutRange
import Derived.Deep.Cut
import Derived.Deep.RegionWith
import Derived.ShutString
import Derived.ChangeOld
import Derived.Below
namespace Go.Proofs.Ytadppilldijijah.fnExactFromBits
open Go.ChangeShapes Go.WideShapes Go.ChangeAt Go.RowKit
open Go.ChangeMaps (open_string shut_string)
set_option linter.unusedVariables false

theorem own : ownKnob Try.prog.godebug = none := by kernel_rfl
theorem laidOut : laidOutB Try.prog = true := by kernel_rfl

set_option maxHeartbeats 1000000 in
theorem walk (a0 : Option Addr) (len0 cap0 : Nat) (z0 : List Int) (w : World) (w0 : IsRow .i64 w a0 len0 cap0 z0) :
    Calls Try.prog 3 #[.slice a0 len0 cap0] w fun e w' => e = .returned (.bool true) ∧ Below w.heap.size w w' := by
  obtain ⟨xs, rfl, hr, hw⟩ := w0.reads
  clear w0
  by_cases hl : 1048576 < xs.length
  · go_enter Try.func3, Try.ntmps3
    go_wp2
    go_ret
    exact ⟨rfl, Below.refl _ _⟩
  · have hl' : xs.length ≤ 1048576 := by omega
    go_enter Try.func3, Try.ntmps3
    go_wp2_with fail
    refine (toInt64S_all _ xs _ hr hl').mono ?_
    rintro e w1 ⟨g1, rfl, i1, l1, hb1⟩
    go_wp2_with fail
    refine (spec_FromBits _ xs _ (Ints.reads i1)).mono ?_
    rintro e w2 ⟨rfl, hb2⟩
    have r2 := (hr.below hb1).below hb2
    go_wp2_with fail
    refine (toInt64S_all _ xs _ (r2.below ((Below.refl _ _).alloc (Nat.le_refl _) _)) hl').mono ?_
    rintro e w3 ⟨g3, rfl, i3, l3, hb3⟩
    have A3 := (Blk.new w2 24 #[.int .i64 (fromB xs).1, .int .i64 (fromB xs).2]).keep hb3
    go_wp2_with fail
    refine (impl_FromBits _ xs _ (Ints.reads i3)).mono ?_
    rintro e w4 ⟨rfl, hb4⟩
    have A4 := A3.keep hb4
    have z3 : w2.heap.size < w3.heap.size := by have := hb3.size; simp at this; omega
    have z4 := hb4.size
    have zz : w2.heap.size < w4.heap.size := by omega
    have a1 := A4.at.1
    go_wp2_with fail
    clear a1
    refine (eqIntResult_same _ _ _).mono ?_
    rintro e w5 ⟨rfl, hb5⟩
    have q3 : Below w.heap.size w w3 := (by have zz0 := (hb3).size; (try simp at zz0); have zz1 := (hb2).size; (try simp at zz1); have zz2 := (hb1).size; (try simp at zz2); repeat (first | exact Below.refl _ _ | refine Below.drew ?_ | refine below_drewN ?_ _ | refine Below.setCell ?_ (by first | omega | (simp; done) | (simp; omega)) _ | refine Below.alloc ?_ (by first | omega | (simp; done) | (simp; omega)) _ | refine bcall ?_ hb3 (by first | omega | (simp; done) | (simp; omega)) | refine bcall ?_ hb2 (by first | omega | (simp; done) | (simp; omega)) | refine bcall ?_ hb1 (by first | omega | (simp; done) | (simp; omega))))
    have z03 := q3.size
    have q5 : Below w.heap.size w w5 := (by have zz0 := (hb5).size; (try simp at zz0); have zz1 := (hb4).size; (try simp at zz1); have zz2 := (q3).size; (try simp at zz2); repeat (first | exact Below.refl _ _ | refine Below.drew ?_ | refine below_drewN ?_ _ | refine Below.setCell ?_ (by first | omega | (simp; done) | (simp; omega)) _ | refine Below.alloc ?_ (by first | omega | (simp; done) | (simp; omega)) _ | refine bcall ?_ hb5 (by first | omega | (simp; done) | (simp; omega)) | refine bcall ?_ hb4 (by first | omega | (simp; done) | (simp; omega)) | refine bcall ?_ q3 (by first | omega | (simp; done) | (simp; omega))))
    have i5 := Ints.keep (Ints.alloc (Ints.keep i3 hb4) (.cells #[.int .i64 (fromB xs).1, .int .i64 (fromB xs).2] 24)) hb5
    go_wp2_with fail
    refine (toInt64S_all _ xs _ (hr.below q5) hl').mono ?_
    rintro e w6 ⟨g6, rfl, i6, l6, hb6⟩
    go_wp2_with fail
    refine (eqInt64S_same _ _ xs _ (Ints.reads (Ints.keep i5 hb6)) (Ints.reads i6)).mono ?_
    rintro e w7 ⟨rfl, hb7⟩
    go_wp2
    go_ret
    have z05 := q5.size
    exact ⟨rfl, (by have zz0 := (hb7).size; (try simp at zz0); have zz1 := (hb6).size; (try simp at zz1); have zz2 := (q5).size; (try simp at zz2); repeat (first | exact Below.refl _ _ | refine Below.drew ?_ | refine below_drewN ?_ _ | refine Below.setCell ?_ (by first | omega | (simp; done) | (simp; omega)) _ | refine Below.alloc ?_ (by first | omega | (simp; done) | (simp; omega)) _ | refine bcall ?_ hb7 (by first | omega | (simp; done) | (simp; omega)) | refine bcall ?_ hb6 (by first | omega | (simp; done) | (simp; omega)) | refine bcall ?_ q5 (by first | omega | (simp; done) | (simp; omega))))⟩

/-! the row's step -/
set_option maxRecDepth 100000 in
theorem lifted (os : Os) (started : os.Started) (H : Type) (enc : TypeId × Value → H) :
    ReturnsInHanded {} Try.checked os 3 .any (Rows.fnExactFromBitsSpec.pre6 enc Try.prog Try.f3 Rows.fnExactFromBitsRow.domain false) (Rows.fnExactFromBitsSpec.post enc Try.prog Try.f3 false true false false) := by
  refine returnsInHanded_of_change (C := Try.checked) own started (by kernel_rfl) Try.func3
    (ChangeSpec.witness6 (enc := enc) (C := Try.checked) false ⟨#[], #[.slice none 0 0], []⟩ 8 (by kernel_rfl) (by kernel_rfl) (by kernel_rfl) (by kernel_rfl)) ?_
  intro W base args ds gs before hval0 hW hcnd _
  have hval : ∀ (j : Nat) t v, Try.f3.params[j]? = some t → args[j]? = some v → Value.okWide Try.prog W .any base t v := hval0
  have hW' := hW
  obtain ⟨p, q, hA0, hV, rfl, hfz, hnd⟩ := hW
  have hA : DataW.TrodAll enc Try.prog W 0 (fun _ => true) true Try.f3.params.toList args.toList ds p := hA0
  rw [Try.params3] at hA hval
  obtain ⟨v0, vs0, d0, ds0, p0, q0, hargs, rfl, rfl, h0, r0⟩ := trodAll_cons hA
  obtain ⟨rfl, rfl, rfl⟩ := trodAll_nil r0
  obtain rfl : args = #[v0] := by cases args; simp_all
  obtain ⟨rfl, rfl⟩ := trodVars_none hV
  obtain ⟨a0, len0, cap0, rfl⟩ := okWide_slice Try.underlying22 (hval 0 22 v0 rfl rfl)
  have k0 := h0
  have lt0 : ∀ x ∈ p0, x.block < W.heap.size := by obtain ⟨m, hm⟩ := k0; exact DataW.trod_lt m _ _ _ hm
  obtain ⟨z0, w0⟩ : ∃ zs, IsRow .i64 W a0 len0 cap0 zs := by
    obtain ⟨fuel, hf⟩ := h0
    rcases open_ints Try.underlying22 Try.underlying2 (by kernel_rfl) hf with ⟨hcs, _⟩ | ⟨x, l, c, zs, hcs, _, hl, hm, hz, _, hcell, hwz⟩
    · simp [Value.cells] at hcs
      obtain ⟨rfl, rfl, rfl⟩ := hcs
      exact ⟨[], .inl ⟨rfl, rfl, rfl, rfl⟩⟩
    · simp [Value.cells] at hcs
      obtain ⟨rfl, rfl, rfl⟩ := hcs
      exact ⟨zs, .inr ⟨_, rfl, hl, hm, by simpa using hz, hcell, hwz⟩⟩
  clear hA0 hval0
  refine (walk a0 len0 cap0 z0 W w0).mono fun e W' ⟨he, bel⟩ => ?_
  subst he
  exact ⟨_, rfl, _, _, _, [], _, [], hW', trodAll_mk1 (shut_bool Try.underlying4 _), (trodAll_cons_mk (Below.trod laidOut (by kernel_rfl) (of_decide_eq_true (by kernel_rfl)) k0 bel lt0) trodAll_mk0), rfl, bel.frame _, fun h => by cases h⟩

theorem over : Rows.fnExactFromBitsRow.holds Try.pinned (OpenSpec.ofChange Rows.fnExactFromBitsSpec) :=
  OpenClaim.holds_of_wide 3 Try.f3 rfl rfl rfl rfl rfl rfl rfl ⟨rfl, rfl, rfl, rfl, rfl⟩ rfl rfl rfl rfl rfl (by kernel_rfl) Try.func3 (by kernel_rfl)
    (of_decide_eq_true (by kernel_rfl)) (by unfold Func.isWrapper; first | (rw [if_pos (by decide +kernel)]; kernel_rfl) | (rw [if_neg (by decide +kernel)]; exact ⟨rfl, rfl⟩))
    (fun os started H enc _ => lifted os started H enc)

end Go.Proofs.Ytadppilldijijah.fnExactFromBits
namespace Go.Proofs.Ytadppilldijijah
theorem fnExactFromBits_holds : Rows.FnExactFromBitsSaid := fnExactFromBits.over
#print axioms fnExactFromBits_holds
end Go.Proofs.Ytadppilldijijah
