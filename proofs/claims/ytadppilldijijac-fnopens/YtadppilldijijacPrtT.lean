/-
  Contract of chapter 6's model: PartFrom.
-/
import Derived.Test.YtadppilldijijacPrtS
namespace Go.Proofs.Ytadppilldijijac
open Go.ChangeShapes Go.WideShapes Go.ChangeAt Go.RowKit
set_option linter.unusedVariables false
set_option maxHeartbeats 4000000 in
theorem spec_PartFrom (v : Value) (x : MMirror) (part who by' : Int) (w : World) (hv : RdMirror w v x) :
    Calls Try.prog 21 #[v, .int .i64 part, .int .i64 who, .int .i64 by'] w fun e w' => e = .returned (.agg #[.int .i64 (partR x.xQ x.xViews part who by').1, .int .i64 (partR x.xQ x.xViews part who by').2]) ∧ Below w.heap.size w w' := by
  obtain ⟨q, xss⟩ := x
  obtain ⟨p, c, rfl, hvv⟩ := hv
  dsimp only at hvv ⊢
  obtain ⟨W0, eW0⟩ : ∃ W0, W0 = (w.alloc (.cells #[.int .i64 q, .slice p xss.length c] 37)).alloc (.cells #[.int .i64 0, .int .i64 0] 43) := ⟨_, rfl⟩
  have B0 : Below w.heap.size w W0 := by rw [eW0]; exact (by repeat (first | exact Below.refl _ _ | refine Below.drew ?_ | refine below_drewN ?_ _ | refine Below.setCell ?_ (by first | omega | (simp; done) | (simp; omega)) _ | refine Below.alloc ?_ (by first | omega | (simp; done) | (simp; omega)) _))
  have Y0 : Blk W0 w.heap.size 37 #[.int .i64 q, .slice p xss.length c] := by rw [eW0]; exact (Blk.new w _ _).alloc _
  have R0 : Blk W0 (w.heap.size + 1) 43 #[.int .i64 0, .int .i64 0] := by
    rw [eW0]
    have := Blk.new (w.alloc (.cells #[.int .i64 q, .slice p xss.length c] 37)) 43 #[.int .i64 0, .int .i64 0]
    simpa using this
  have V0 : ReadsM W0 (.slice p xss.length c) xss := hvv.below B0
  have KF := spec_l3Fault _ q _ xss W0 Y0 V0
  clear hvv
  by_cases h0 : mirC q xss = 0
  · rw [h0] at KF
    by_cases hpt : 0 ≤ part ∧ part ≤ 3
    · have KL := fun V => spec_l6Liar who by' V
      by_cases hl : isLieB who by' = true
      · rw [partR_in h0 ⟨hpt, hl⟩]
        rw [hl] at KL
        obtain ⟨n, rfl⟩ : ∃ n : Nat, part = n := ⟨part.toNat, by omega⟩
        rw [Int.toNat_natCast]
        have hl' := isLieB_ok hl
        have KP := fun V k1 k2 => spec_l6Part w.heap.size q (.slice p xss.length c) xss n who by' V k1 k2 h0 (by omega) hl'.2
        have HM : Hid ((partM q xss n who by').1 ≠ 0 → partM q xss n who by' = (4, 0)) := fun h => major_four (told4_three' n _ (by omega)) h
        generalize partM q xss n who by' = M at *
        clear hl hl' h0
        go_enter Try.func21, Try.ntmps21
        go_wp2_with fail
        rw [← eW0]
        clear eW0
        refine KF.mono ?_
        rintro e w1 ⟨rfl, hb1⟩
        replace Y0 := Y0.keep hb1
        replace R0 := R0.keep hb1
        replace V0 := V0.below hb1
        replace B0 := B0.trans (hb1.mono B0.size)
        clear KF hb1
        go_wp2_with fail
        refine (spec_l2Party_yes _ _ hpt).mono ?_
        rintro e w' ⟨rfl, rfl⟩
        go_wp2_with fail
        refine (KL _).mono ?_
        rintro e w' ⟨rfl, rfl⟩
        go_wp2_with fail
        refine (KP _ Y0 V0).mono ?_
        rintro e w2 ⟨x, rfl, hx, hb2⟩
        replace R0 := R0.keep hb2
        replace B0 := B0.trans (hb2.mono B0.size)
        clear KP
        by_cases hM : M.1 = 0
        · have hx1 := hx hM
          rw [show decide (M.1 = 0) = true from decide_eq_true hM]
          have R0a := R0.at.1
          have R0b := R0.at.2
          have R0l := R0.lt
          go_wp2
          exact bodyPost_ret (v := .agg #[.int .i64 0, .int .i64 M.2]) (by simp [results, Try.results21, go_sem, R0a]) rfl ⟨by rw [hM], (by have zz0 := (B0).size; (try simp at zz0); repeat (first | exact Below.refl _ _ | refine Below.drew ?_ | refine below_drewN ?_ _ | refine Below.setCell ?_ (by first | omega | (simp; done) | (simp; omega)) _ | refine Below.alloc ?_ (by first | omega | (simp; done) | (simp; omega)) _ | refine bcall ?_ B0 (by first | omega | (simp; done) | (simp; omega))))⟩
        · rw [show decide (M.1 = 0) = false from decide_eq_false hM]
          have R0a := R0.at.1
          have R0b := R0.at.2
          have R0l := R0.lt
          go_wp2
          exact bodyPost_ret (v := .agg #[.int .i64 4, .int .i64 0]) (by simp [results, Try.results21, go_sem, R0a]) rfl ⟨by rw [HM.out hM], (by have zz0 := (B0).size; (try simp at zz0); repeat (first | exact Below.refl _ _ | refine Below.drew ?_ | refine below_drewN ?_ _ | refine Below.setCell ?_ (by first | omega | (simp; done) | (simp; omega)) _ | refine Below.alloc ?_ (by first | omega | (simp; done) | (simp; omega)) _ | refine bcall ?_ B0 (by first | omega | (simp; done) | (simp; omega))))⟩
      · rw [partR_out h0 (fun h => hl h.2)]
        simp only [Bool.not_eq_true] at hl
        rw [hl] at KL
        clear hl h0
        go_enter Try.func21, Try.ntmps21
        go_wp2_with fail
        rw [← eW0]
        clear eW0
        refine KF.mono ?_
        rintro e w1 ⟨rfl, hb1⟩
        replace Y0 := Y0.keep hb1
        replace R0 := R0.keep hb1
        replace V0 := V0.below hb1
        replace B0 := B0.trans (hb1.mono B0.size)
        clear KF hb1
        go_wp2_with fail
        refine (spec_l2Party_yes _ _ hpt).mono ?_
        rintro e w' ⟨rfl, rfl⟩
        go_wp2_with fail
        refine (KL _).mono ?_
        rintro e w' ⟨rfl, rfl⟩
        have R0a := R0.at.1
        have R0b := R0.at.2
        have R0l := R0.lt
        go_wp2
        exact bodyPost_ret (v := .agg #[.int .i64 3, .int .i64 0]) (by simp [results, Try.results21, go_sem, R0a]) rfl ⟨rfl, (by have zz0 := (B0).size; (try simp at zz0); repeat (first | exact Below.refl _ _ | refine Below.drew ?_ | refine below_drewN ?_ _ | refine Below.setCell ?_ (by first | omega | (simp; done) | (simp; omega)) _ | refine Below.alloc ?_ (by first | omega | (simp; done) | (simp; omega)) _ | refine bcall ?_ B0 (by first | omega | (simp; done) | (simp; omega))))⟩
    · rw [partR_out h0 (fun h => hpt h.1)]
      clear h0
      go_enter Try.func21, Try.ntmps21
      go_wp2_with fail
      rw [← eW0]
      clear eW0
      refine KF.mono ?_
      rintro e w1 ⟨rfl, hb1⟩
      replace Y0 := Y0.keep hb1
      replace R0 := R0.keep hb1
      replace V0 := V0.below hb1
      replace B0 := B0.trans (hb1.mono B0.size)
      clear KF hb1
      go_wp2_with fail
      refine (spec_l2Party_no _ _ hpt).mono ?_
      rintro e w' ⟨rfl, rfl⟩
      have R0a := R0.at.1
      have R0b := R0.at.2
      have R0l := R0.lt
      go_wp2
      exact bodyPost_ret (v := .agg #[.int .i64 3, .int .i64 0]) (by simp [results, Try.results21, go_sem, R0a]) rfl ⟨rfl, (by have zz0 := (B0).size; (try simp at zz0); repeat (first | exact Below.refl _ _ | refine Below.drew ?_ | refine below_drewN ?_ _ | refine Below.setCell ?_ (by first | omega | (simp; done) | (simp; omega)) _ | refine Below.alloc ?_ (by first | omega | (simp; done) | (simp; omega)) _ | refine bcall ?_ B0 (by first | omega | (simp; done) | (simp; omega))))⟩
  · rw [partR_fault h0]
    have hne : (mirC q xss != 0) = true := by simpa using h0
    generalize mirC q xss = mc at *
    clear h0
    go_enter Try.func21, Try.ntmps21
    go_wp2_with fail
    rw [← eW0]
    clear eW0
    refine KF.mono ?_
    rintro e w1 ⟨rfl, hb1⟩
    replace Y0 := Y0.keep hb1
    replace R0 := R0.keep hb1
    replace V0 := V0.below hb1
    replace B0 := B0.trans (hb1.mono B0.size)
    clear KF hb1
    have R0a := R0.at.1
    have R0b := R0.at.2
    have R0l := R0.lt
    go_wp2
    exact bodyPost_ret (v := .agg #[.int .i64 mc, .int .i64 0]) (by simp [results, Try.results21, go_sem, R0a]) rfl ⟨rfl, (by have zz0 := (B0).size; (try simp at zz0); repeat (first | exact Below.refl _ _ | refine Below.drew ?_ | refine below_drewN ?_ _ | refine Below.setCell ?_ (by first | omega | (simp; done) | (simp; omega)) _ | refine Below.alloc ?_ (by first | omega | (simp; done) | (simp; omega)) _ | refine bcall ?_ B0 (by first | omega | (simp; done) | (simp; omega))))⟩
end Go.Proofs.Ytadppilldijijac
