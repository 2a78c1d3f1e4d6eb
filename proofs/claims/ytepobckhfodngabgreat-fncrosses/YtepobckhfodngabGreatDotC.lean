/-
  Contracts of chapter 5: what two parts make together, in the program.
-/
import Derived.Test.YtepobckhfodngabGreatDotB
namespace Go.Proofs.YtepobckhfodngabGreat
open Go.ChangeShapes Go.WideShapes Go.ChangeAt Go.RowKit
set_option linter.unusedVariables false

theorem viewC_okV {q : Int} {xs : List Int} (h4 : xs.length = 4) (h : viewC q xs = 0) : okV q xs = true := by
  unfold viewC at h
  rw [if_pos h4] at h
  split at h
  · assumption
  · cases h
theorem index_0 (x y : Value) (w : World) : (Instr.index 103 (.agg #[x, y]) (.int .i64 0)).run Tryz.prog w = .ok x w := by kernel_rfl
theorem index_1 (x y : Value) (w : World) : (Instr.index 103 (.agg #[x, y]) (.int .i64 1)).run Tryz.prog w = .ok y w := by kernel_rfl
set_option maxHeartbeats 4000000 in
set_option maxRecDepth 100000 in
theorem impl_CrossOf (q : Int) (v u : Value) (xs ys : List Int) (i j : Int) (w : World) (hv : Reads w .i64 v xs) (hu : Reads w .i64 u ys) :
    Calls Tryz.prog 16 #[.int .i64 q, v, u, .int .i64 i, .int .i64 j] w fun e w' => ∃ u, e = .returned u ∧ RdIntResult w' u (crossR q xs ys i j) ∧ Below w.heap.size w w' := by
  have hm := hv.le
  have hm' := hu.le
  unfold maxLen at hm hm'
  obtain ⟨p, c, rfl⟩ := hv.shp
  obtain ⟨p', c', rfl⟩ := hu.shp
  have BA : Below w.heap.size w (w.alloc (.cells #[.int .i64 0, .int .i64 0] 44)) := (Below.refl _ _).alloc (Nat.le_refl _) _
  have Y0 := Blk.new w 44 #[.int .i64 0, .int .i64 0]
  have KT := fun V => impl_areTwo i j V
  by_cases k0 : q = 2 ∨ q = 256
  · by_cases k1 : Two i j
    · rw [decide_eq_true k1] at KT
      have kk : (q = 2 ∨ q = 256) ∧ Two i j := ⟨k0, k1⟩
      by_cases l1 : xs.length = 4
      · by_cases l2 : ys.length = 4
        · have KV := fun V h => impl_partsFault q (.slice p xs.length c) xs V h
          have KU := fun V h => impl_partsFault q (.slice p' ys.length c') ys V h
          obtain ⟨m, rfl⟩ := Int.eq_ofNat_of_zero_le k1.1.1
          obtain ⟨n, rfl⟩ := Int.eq_ofNat_of_zero_le k1.2.1.1
          have hm4 : m < 4 := by have := k1.1.2; omega
          have hn4 : n < 4 := by have := k1.2.1.2; omega
          have HX : Hid (xs.length = 4) := l1
          have HY : Hid (ys.length = 4) := l2
          have HB : Hid (¬ (viewC q xs = 0 ∧ viewC q ys = 0) → crossR q xs ys m n = ⟨3, 0⟩) := fun h => crossR_bad kk ⟨l1, l2⟩ (fun o => h ⟨viewC_ok l1 o.1, viewC_ok l2 o.2⟩)
          have HG : Hid (viewC q xs = 0 ∧ viewC q ys = 0 → crossR q xs ys m n = ⟨0, crossV q xs ys m n⟩) := fun h => crossR_in kk ⟨l1, l2⟩ ⟨viewC_okV l1 h.1, viewC_okV l2 h.2⟩
          rw [l1] at KV hv ⊢
          rw [l2] at KU hu ⊢
          clear l1 l2 kk k1 hm hm'
          have hi0 := index_0
          have hi1 := index_1
          go_enter Tryz.func16, Tryz.ntmps16
          go_wp2_with fail
          refine (impl_isRing_yes _ _ k0).mono ?_
          rintro e w' ⟨rfl, rfl⟩
          go_wp2_with fail
          refine (KT _).mono ?_
          rintro e w' ⟨rfl, rfl⟩
          go_wp2
          go_loop [12, 13, 36] (fun _ _ s => s = .int .i64 0 ∨ (s = .int .i64 1 ∧ viewC q xs = 0) ∨ (s = .int .i64 2 ∧ viewC q xs = 0 ∧ viewC q ys = 0)) (fun _ _ s => 2 - (intOf s).toNat)
          case atStart => exact .inl rfl
          case round =>
            rcases hrel with rfl | ⟨rfl, v1⟩ | ⟨rfl, v1, v2⟩
            · by_cases v1 : viewC q xs = 0
              · have HA : Hid (viewC q xs = 0) := v1
                rw [v1] at KV
                clear v1
                go_wp2_with fail
                refine (KV _ (hv.below BA)).mono ?_
                rintro e w' ⟨rfl, rfl⟩
                go_wp2
                go_round
                case rel => exact .inr (.inl ⟨rfl, HA.out⟩)
                case measure => simp [intOf]
              · have v3 := v1
                have HR := HB.out (fun h => v3 h.1)
                have hv3 : viewC q xs = 3 := viewC_bad HX.out (fun h => v3 (viewC_ok HX.out h))
                rw [hv3] at KV
                clear v1 v3 hv3
                go_wp2_with fail
                refine (KV _ (hv.below BA)).mono ?_
                rintro e w' ⟨rfl, rfl⟩
                go_wp2
                exact bodyPost_ret (v := .agg #[.int .i64 3, .int .i64 0]) (by simp [results, Tryz.results16, go_sem]) rfl ⟨_, rfl, by rw [HR]; rfl, (by repeat (first | exact Below.refl _ _ | refine Below.drew ?_ | refine below_drewN ?_ _ | refine Below.setCell ?_ (by first | omega | (simp; done) | (simp; omega)) _ | refine Below.alloc ?_ (by first | omega | (simp; done) | (simp; omega)) _))⟩
            · by_cases v2 : viewC q ys = 0
              · have HA : Hid (viewC q xs = 0 ∧ viewC q ys = 0) := ⟨v1, v2⟩
                rw [v2] at KU
                clear v1 v2
                go_wp2_with fail
                refine (KU _ (hu.below BA)).mono ?_
                rintro e w' ⟨rfl, rfl⟩
                go_wp2
                go_round
                case rel => exact .inr (.inr ⟨rfl, HA.out⟩)
                case measure => simp [intOf]
              · have v3 := v2
                have HR := HB.out (fun h => v3 h.2)
                have hv3 : viewC q ys = 3 := viewC_bad HY.out (fun h => v3 (viewC_ok HY.out h))
                rw [hv3] at KU
                clear v1 v2 v3 hv3
                go_wp2_with fail
                refine (KU _ (hu.below BA)).mono ?_
                rintro e w' ⟨rfl, rfl⟩
                go_wp2
                exact bodyPost_ret (v := .agg #[.int .i64 3, .int .i64 0]) (by simp [results, Tryz.results16, go_sem]) rfl ⟨_, rfl, by rw [HR]; rfl, (by repeat (first | exact Below.refl _ _ | refine Below.drew ?_ | refine below_drewN ?_ _ | refine Below.setCell ?_ (by first | omega | (simp; done) | (simp; omega)) _ | refine Below.alloc ?_ (by first | omega | (simp; done) | (simp; omega)) _))⟩
            · have HR := HG.out ⟨v1, v2⟩
              have ox : okV q xs = true := viewC_okV HX.out v1
              have oy : okV q ys = true := viewC_okV HY.out v2
              have KC := fun V => impl_crossOf q xs ys m n V k0 HX.out HY.out ox oy (by omega) (by omega)
              have rb : 0 ≤ crossV q xs ys m n ∧ crossV q xs ys m n < 256 := ⟨Int.emod_nonneg _ (by omega), by have := Int.emod_lt_of_pos (xs.getD (m : Int).toNat 0 * ys.getD (n : Int).toNat 0 + xs.getD (n : Int).toNat 0 * ys.getD (m : Int).toNat 0) (show 0 < q by omega); unfold crossV; omega⟩
              have KE := fun V => impl_result q (crossV q xs ys m n) V (by omega) (by omega)
              clear v1 v2 ox oy KV KU HG HB
              generalize crossV q xs ys m n = r at *
              go_wp2_with fail
              refine (impl_viewOf _ xs _ (by exact hv.below BA) HX.out).mono ?_
              rintro e w1 ⟨rfl, b1⟩
              have BB := BA.trans (b1.mono BA.size)
              have Y1 := Y0.keep b1
              go_wp2_with fail
              refine (impl_viewOf _ ys _ (by exact hu.below BB) HY.out).mono ?_
              rintro e w2 ⟨rfl, b2⟩
              replace BB := BB.trans (b2.mono BB.size)
              replace Y1 := Y1.keep b2
              go_wp2_with fail
              refine (KC _).mono ?_
              rintro e w3 ⟨rfl, b3⟩
              replace BB := BB.trans (b3.mono BB.size)
              replace Y1 := Y1.keep b3
              go_wp2_with fail
              refine (KE _).mono ?_
              rintro e w4 ⟨rfl, b4⟩
              replace BB := BB.trans (b4.mono BB.size)
              replace Y1 := Y1.keep b4
              have ya := Y1.at.1
              have yb := Y1.at.2
              have yl := Y1.lt
              go_wp2
              exact bodyPost_ret (v := .agg #[.int .i64 0, .int .i64 r]) (by simp [results, Tryz.results16, go_sem, ya]) rfl ⟨_, rfl, by rw [HR]; rfl, (by have zz0 := (BB).size; (try simp at zz0); repeat (first | exact Below.refl _ _ | refine Below.drew ?_ | refine below_drewN ?_ _ | refine Below.setCell ?_ (by first | omega | (simp; done) | (simp; omega)) _ | refine Below.alloc ?_ (by first | omega | (simp; done) | (simp; omega)) _ | refine bcall ?_ BB (by first | omega | (simp; done) | (simp; omega))))⟩
        · rw [crossR_form kk (fun h => l2 h.2)]
          have e2 : ((ys.length : Int) != 4) = true := by simp; omega
          rw [l1]
          clear kk l1 l2 k1
          go_enter Tryz.func16, Tryz.ntmps16
          go_wp2_with fail
          refine (impl_isRing_yes _ _ k0).mono ?_
          rintro e w' ⟨rfl, rfl⟩
          go_wp2_with fail
          refine (KT _).mono ?_
          rintro e w' ⟨rfl, rfl⟩
          go_wp2
          exact bodyPost_ret (v := .agg #[.int .i64 1, .int .i64 0]) (by simp [results, Tryz.results16, go_sem]) rfl ⟨_, rfl, rfl, (by repeat (first | exact Below.refl _ _ | refine Below.drew ?_ | refine below_drewN ?_ _ | refine Below.setCell ?_ (by first | omega | (simp; done) | (simp; omega)) _ | refine Below.alloc ?_ (by first | omega | (simp; done) | (simp; omega)) _))⟩
      · rw [crossR_form kk (fun h => l1 h.1)]
        have e1 : ((xs.length : Int) != 4) = true := by simp; omega
        clear kk l1 k1
        go_enter Tryz.func16, Tryz.ntmps16
        go_wp2_with fail
        refine (impl_isRing_yes _ _ k0).mono ?_
        rintro e w' ⟨rfl, rfl⟩
        go_wp2_with fail
        refine (KT _).mono ?_
        rintro e w' ⟨rfl, rfl⟩
        go_wp2
        exact bodyPost_ret (v := .agg #[.int .i64 1, .int .i64 0]) (by simp [results, Tryz.results16, go_sem]) rfl ⟨_, rfl, rfl, (by repeat (first | exact Below.refl _ _ | refine Below.drew ?_ | refine below_drewN ?_ _ | refine Below.setCell ?_ (by first | omega | (simp; done) | (simp; omega)) _ | refine Below.alloc ?_ (by first | omega | (simp; done) | (simp; omega)) _))⟩
    · rw [crossR_out (fun h => k1 h.2)]
      rw [decide_eq_false k1] at KT
      clear k1
      go_enter Tryz.func16, Tryz.ntmps16
      go_wp2_with fail
      refine (impl_isRing_yes _ _ k0).mono ?_
      rintro e w' ⟨rfl, rfl⟩
      go_wp2_with fail
      refine (KT _).mono ?_
      rintro e w' ⟨rfl, rfl⟩
      go_wp2
      exact bodyPost_ret (v := .agg #[.int .i64 3, .int .i64 0]) (by simp [results, Tryz.results16, go_sem]) rfl ⟨_, rfl, rfl, (by repeat (first | exact Below.refl _ _ | refine Below.drew ?_ | refine below_drewN ?_ _ | refine Below.setCell ?_ (by first | omega | (simp; done) | (simp; omega)) _ | refine Below.alloc ?_ (by first | omega | (simp; done) | (simp; omega)) _))⟩
  · rw [crossR_out (fun h => k0 h.1)]
    go_enter Tryz.func16, Tryz.ntmps16
    go_wp2_with fail
    refine (impl_isRing_no _ _ k0).mono ?_
    rintro e w' ⟨rfl, rfl⟩
    go_wp2
    exact bodyPost_ret (v := .agg #[.int .i64 3, .int .i64 0]) (by simp [results, Tryz.results16, go_sem]) rfl ⟨_, rfl, rfl, (by repeat (first | exact Below.refl _ _ | refine Below.drew ?_ | refine below_drewN ?_ _ | refine Below.setCell ?_ (by first | omega | (simp; done) | (simp; omega)) _ | refine Below.alloc ?_ (by first | omega | (simp; done) | (simp; omega)) _))⟩
end Go.Proofs.YtepobckhfodngabGreat
