/-
  FnMajors answers true whatever bytes it draws from: what two of three tell is what they agree on, whatever the third one tells.
-/
import Derived.Test.YtjnjgglbdlfinaaMajor
import Derived.Test.YtjnjgglbdlfinaaDraw1
import Derived.Test.YtjnjgglbdlfinaaLw
import Derived.Deep.RegionHeld3
import Derived.ShutString
import Derived.ChangeOld
import Derived.Below
namespace Go.Proofs.Ytjnjgglbdlfinaa.fnMajors
open Go.ChangeShapes Go.WideShapes Go.ChangeAt Go.RowKit
open Go.ChangeMaps (open_string shut_string)
set_option linter.unusedVariables false

theorem own : ownKnob Try.prog.godebug = none := by kernel_rfl
theorem laidOut : laidOutB Try.prog = true := by kernel_rfl

theorem two_keep {w w' : World} {a b : Addr} {s t : Value} (h : w.cell? a = some s ∧ w.cell? b = some t) (hb : Below w.heap.size w w') : w'.cell? a = some s ∧ w'.cell? b = some t :=
  ⟨kcell h.1 hb, kcell h.2 hb⟩
theorem major_same (a b : Int) : major [b, a, a] = (0, a) := by
  by_cases h : b = a
  · subst h; exact major_a _ _ _ (.inl rfl)
  · exact major_b _ _ _ (by omega) rfl
set_option maxHeartbeats 4000000 in
set_option maxRecDepth 100000 in
theorem walk (a0 : Option Addr) (len0 cap0 : Nat) (z0 : List Int) (w : World) (w0 : IsRow .u8 w a0 len0 cap0 z0) :
    Calls Try.prog 5 #[.slice a0 len0 cap0] w fun e w' => e = .returned (.bool true) ∧ Below w.heap.size w w' := by
  obtain ⟨zs, rfl, hr, hw⟩ := w0.reads
  clear w0
  have hby := bytes_of hw
  clear hw
  by_cases hl : 1048576 < zs.length
  · go_enter Try.func5, Try.ntmps5
    go_wp2_with fail
    refine (lwBig_yes _ _ _ _ hl).mono ?_
    rintro e w' ⟨rfl, rfl⟩
    go_wp2
    go_ret
    exact ⟨rfl, Below.refl _ _⟩
  · have hl' : zs.length ≤ 1048576 := by omega
    go_enter Try.func5, Try.ntmps5
    go_wp2_with fail
    refine (lwBig_no _ _ _ _ hl').mono ?_
    rintro e w' ⟨rfl, rfl⟩
    go_wp2_with fail
    refine (spec_DrawMajorityOf a0 cap0 zs w hr hl' hby).mono ?_
    rintro e w1 ⟨p, n, k, xs, rfl, hR1, hb1⟩
    go_wp2_with fail
    refine (impl_MajorityOf _ xs _ hR1).mono ?_
    rintro e w2 ⟨rfl, hb2⟩
    have M2 := Blk.new w2 27 #[.int .i64 (major xs).1, .int .i64 (major xs).2]
    have hR2 := (hR1.below hb2).below ((Below.refl _ _).alloc (Nat.le_refl _) (.cells #[.int .i64 (major xs).1, .int .i64 (major xs).2] 27))
    have q2 : Below w.heap.size w (w2.alloc (.cells #[.int .i64 (major xs).1, .int .i64 (major xs).2] 27)) := (by have zz0 := (hb2).size; (try simp at zz0); have zz1 := (hb1).size; (try simp at zz1); repeat (first | exact Below.refl _ _ | refine Below.drew ?_ | refine below_drewN ?_ _ | refine Below.setCell ?_ (by first | omega | (simp; done) | (simp; omega)) _ | refine Below.alloc ?_ (by first | omega | (simp; done) | (simp; omega)) _ | refine bcall ?_ hb2 (by first | omega | (simp; done) | (simp; omega)) | refine bcall ?_ hb1 (by first | omega | (simp; done) | (simp; omega))))
    go_wp2_with fail
    refine (lwAt_at a0 cap0 zs 2 256 _ (hr.below q2) hl' hby (by omega) (by omega)).mono ?_
    rintro e w3 ⟨a, rfl, ha, hb3⟩
    have q3 := bcall q2 hb3 q2.size
    go_wp2_with fail
    refine (lwAt_at a0 cap0 zs 3 256 _ (hr.below q3) hl' hby (by omega) (by omega)).mono ?_
    rintro e W ⟨b, rfl, hb, hb4⟩
    have q4 := bcall q3 hb4 q3.size
    have hR := (hR2.below hb3).below hb4
    have M4 := (M2.keep hb3).keep hb4
    clear M2 hR1 hR2 hb1 hb2 hb3 hb4 q2 q3 hr hby
    have M1 := fun (v : Value) (w : World) (h : Reads w .i64 v [a, a, b]) => impl_MajorityOf v [a, a, b] w h
    have M2 := fun (v : Value) (w : World) (h : Reads w .i64 v [a, b, a]) => impl_MajorityOf v [a, b, a] w h
    have M3 := fun (v : Value) (w : World) (h : Reads w .i64 v [b, a, a]) => impl_MajorityOf v [b, a, a] w h
    rw [major_a a a b (.inl rfl)] at M1
    rw [major_a a b a (.inr rfl)] at M2
    rw [major_same a b] at M3
    have hS0 : W.cell? ⟨w2.heap.size, 0, none⟩ = some (.int .i64 (major xs).1) ∧ W.cell? ⟨w2.heap.size, 1, none⟩ = some (.int .i64 (major xs).2) := ⟨M4.at.1 0, M4.at.1 1⟩
    clear M4
    generalize w2.heap.size = gM at *
    have KS := fun (w : World) (h : Reads w .i64 (.slice p n k) xs) => spec_MajorityOf (.slice p n k) xs w h
    generalize hc : (major xs).1 = c at *
    generalize hm : (major xs).2 = m at *
    clear hc hm
    have fd0 := field_0
    have fd1 := field_1
    have t1 : True := trivial
    have t3 : True := trivial
    have t4 : True := trivial
    have t5 : True := trivial
    have t6 : True := trivial
    have KSh := hide KS
    have M1h := hide M1
    have M2h := hide M2
    have M3h := hide M3
    clear KS M1 M2 M3
    go_wp2_with fail
    go_region_held3 (fun w' => w'.cell? ⟨gM, 0, none⟩ = some (.int .i64 c) ∧ w'.cell? ⟨gM, 1, none⟩ = some (.int .i64 m)) (first | exact hS0 | exact hS1 | exact hS2 | exact hS3 | exact hS4 | exact hS5 | exact hS6 | exact hS2a _ | exact hS3a _ | exact hS4a _ | exact hS5a _) (first | (go_at_call 27; have _t := t1; refine (unhide KSh W.drew hR).mono ?_; rintro e v1 ⟨rfl, k1⟩; have hS1 := two_keep (w := W.drew) hS0 k1; have hR1 := hR.below (w := W.drew) k1; clear t1) | (go_at_call 27; refine (unhide KSh v1 hR1).mono ?_; rintro e v2 ⟨rfl, k2⟩; have hS2 := two_keep hS1 k2; have hS2a := fun o => two_keep hS2 ((Below.refl v2.heap.size v2).alloc (Nat.le_refl _) o)) | (go_at_call 26; have _t := t3; refine (unhide M1h _ _ (Ints.reads (Ints.lit v2 _ [a, a, b] 3 rfl rfl (by decide)))).mono ?_; rintro e v3 ⟨rfl, k3⟩; have hS3 := two_keep (hS2a _) k3; have hS3a := fun o => two_keep hS3 ((Below.refl v3.heap.size v3).alloc (Nat.le_refl _) o); clear t3) | (go_at_call 26; have _t := t4; refine (unhide M2h _ _ (Ints.reads (Ints.lit v3 _ [a, b, a] 3 rfl rfl (by decide)))).mono ?_; rintro e v4 ⟨rfl, k4⟩; have hS4 := two_keep (hS3a _) k4; have hS4a := fun o => two_keep hS4 ((Below.refl v4.heap.size v4).alloc (Nat.le_refl _) o); clear t4) | (go_at_call 26; have _t := t5; refine (unhide M3h _ _ (Ints.reads (Ints.lit v4 _ [b, a, a] 3 rfl rfl (by decide)))).mono ?_; rintro e v5 ⟨rfl, k5⟩; have hS5 := two_keep (hS4a _) k5; have hS5a := fun o => two_keep hS5 ((Below.refl v5.heap.size v5).alloc (Nat.le_refl _) o); clear t5) | (go_at_call 26; have _t := t6; refine (unhide M3h _ _ (Ints.reads (Ints.lit v5 _ [b, a, a] 3 rfl rfl (by decide)))).mono ?_; rintro e v6 ⟨rfl, k6⟩; have hS6 := two_keep (hS5a _) k6; have hS6a := fun o => two_keep hS6 ((Below.refl v6.heap.size v6).alloc (Nat.le_refl _) o); clear t6))
    go_wp2
    go_ret
    exact ⟨rfl, (by have zz0 := (k6).size; (try simp at zz0); have zz1 := (k5).size; (try simp at zz1); have zz2 := (k4).size; (try simp at zz2); have zz3 := (k3).size; (try simp at zz3); have zz4 := (k2).size; (try simp at zz4); have zz5 := (k1).size; (try simp at zz5); have zz6 := (q4).size; (try simp at zz6); repeat (first | exact Below.refl _ _ | refine Below.drew ?_ | refine below_drewN ?_ _ | refine Below.setCell ?_ (by first | omega | (simp; done) | (simp; omega)) _ | refine Below.alloc ?_ (by first | omega | (simp; done) | (simp; omega)) _ | refine bcall ?_ k6 (by first | omega | (simp; done) | (simp; omega)) | refine bcall ?_ k5 (by first | omega | (simp; done) | (simp; omega)) | refine bcall ?_ k4 (by first | omega | (simp; done) | (simp; omega)) | refine bcall ?_ k3 (by first | omega | (simp; done) | (simp; omega)) | refine bcall ?_ k2 (by first | omega | (simp; done) | (simp; omega)) | refine bcall ?_ k1 (by first | omega | (simp; done) | (simp; omega)) | refine bcall ?_ q4 (by first | omega | (simp; done) | (simp; omega))))⟩

/-! the row's step -/
set_option maxRecDepth 100000 in
theorem lifted (os : Os) (started : os.Started) (H : Type) (enc : TypeId × Value → H) :
    ReturnsInHanded {} Try.checked os 5 .any (Rows.fnMajorsSpec.pre6 enc Try.prog Try.f5 Rows.fnMajorsRow.domain false) (Rows.fnMajorsSpec.post enc Try.prog Try.f5 false true false false) := by
  refine returnsInHanded_of_change (C := Try.checked) own started (by kernel_rfl) Try.func5
    (ChangeSpec.witness6 (enc := enc) (C := Try.checked) false ⟨#[], #[.slice none 0 0], []⟩ 8 (by kernel_rfl) (by kernel_rfl) (by kernel_rfl) (by kernel_rfl)) ?_
  intro W base args ds gs before hval0 hW hcnd _
  have hval : ∀ (j : Nat) t v, Try.f5.params[j]? = some t → args[j]? = some v → Value.okWide Try.prog W .any base t v := hval0
  have hW' := hW
  obtain ⟨p, q, hA0, hV, rfl, hfz, hnd⟩ := hW
  have hA : DataW.TrodAll enc Try.prog W 0 (fun _ => true) true Try.f5.params.toList args.toList ds p := hA0
  rw [Try.params5] at hA hval
  obtain ⟨v0, vs0, d0, ds0, p0, q0, hargs, rfl, rfl, h0, r0⟩ := trodAll_cons hA
  obtain ⟨rfl, rfl, rfl⟩ := trodAll_nil r0
  obtain rfl : args = #[v0] := by cases args; simp_all
  obtain ⟨rfl, rfl⟩ := trodVars_none hV
  obtain ⟨a0, len0, cap0, rfl⟩ := okWide_slice Try.underlying22 (hval 0 22 v0 rfl rfl)
  have k0 := h0
  have lt0 : ∀ x ∈ p0, x.block < W.heap.size := by obtain ⟨m, hm⟩ := k0; exact DataW.trod_lt m _ _ _ hm
  obtain ⟨z0, w0⟩ : ∃ zs, IsRow .u8 W a0 len0 cap0 zs := by
    obtain ⟨fuel, hf⟩ := h0
    rcases open_ints Try.underlying22 Try.underlying5 (by kernel_rfl) hf with ⟨hcs, _⟩ | ⟨x, l, c, zs, hcs, _, hl, hm, hz, _, hcell, hwz⟩
    · simp [Value.cells] at hcs
      obtain ⟨rfl, rfl, rfl⟩ := hcs
      exact ⟨[], .inl ⟨rfl, rfl, rfl, rfl⟩⟩
    · simp [Value.cells] at hcs
      obtain ⟨rfl, rfl, rfl⟩ := hcs
      exact ⟨zs, .inr ⟨_, rfl, hl, hm, by simpa using hz, hcell, hwz⟩⟩
  clear hA0 hval0
  refine (walk a0 len0 cap0 z0 W w0).mono fun e W' ⟨he, bel⟩ => ?_
  subst he
  exact ⟨_, rfl, _, _, _, [], _, [], hW', trodAll_mk1 (shut_bool Try.underlying4 _), (trodAll_cons_mk (Below.trod laidOut (by kernel_rfl) (of_decide_eq_true (by kernel_rfl)) k0 bel lt0) trodAll_mk0), rfl, bel.frame _, fun h => by cases h⟩

theorem over : Rows.fnMajorsRow.holds Try.pinned (OpenSpec.ofChange Rows.fnMajorsSpec) :=
  OpenClaim.holds_of_wide 5 Try.f5 rfl rfl rfl rfl rfl rfl rfl ⟨rfl, rfl, rfl, rfl, rfl⟩ rfl rfl rfl rfl rfl (by kernel_rfl) Try.func5 (by kernel_rfl)
    (of_decide_eq_true (by kernel_rfl)) (by unfold Func.isWrapper; first | (rw [if_pos (by decide +kernel)]; kernel_rfl) | (rw [if_neg (by decide +kernel)]; exact ⟨rfl, rfl⟩))
    (fun os started H enc _ => lifted os started H enc)

end Go.Proofs.Ytjnjgglbdlfinaa.fnMajors
namespace Go.Proofs.Ytjnjgglbdlfinaa
theorem fnMajors_holds : Rows.FnMajorsSaid := fnMajors.over
#print axioms fnMajors_holds
end Go.Proofs.Ytjnjgglbdlfinaa
