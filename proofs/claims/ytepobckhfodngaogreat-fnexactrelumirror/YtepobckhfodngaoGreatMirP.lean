/-
  Contracts of chapter 3 of the program: mirrors that are made.
-/
import Derived.Test.YtepobckhfodngaoGreatMirK
namespace Go.Proofs.YtepobckhfodngaoGreat
open Go.ChangeShapes Go.WideShapes Go.ChangeAt Go.RowKit
set_option linter.unusedVariables false

theorem mirRows_sq {xs : List Int} (h : xs.length = 4) : Sq (mirRows xs) := by
  obtain ⟨a, b, c, d, rfl⟩ := four xs h
  exact Sq.of ..
theorem mirRows_getD {xs : List Int} (h : xs.length = 4) (k : Nat) (hk : k < 4) : (mirRows xs).getD k [] = xs.set k 0 := by simp [mirRows, hk]
set_option maxHeartbeats 4000000 in
set_option maxRecDepth 100000 in
theorem impl_MirrorOf (q : Int) (v : Value) (xs : List Int) (w : World) (hv : Reads w .i64 v xs) :
    Calls Tryz.prog 146 #[.int .i64 q, v] w fun e w' => ∃ u b0, e = .returned u ∧ OwMirrorResult w' u (mirrorOfR q xs) b0 ∧ (∀ y ∈ b0, w.heap.size ≤ y) ∧ Below w.heap.size w w' := by
  have Y0 := Blk.new w 102 #[.int .i64 0, .int .i64 0, .slice none 0 0]
  have B0 : Below w.heap.size w (w.alloc (.cells #[.int .i64 0, .int .i64 0, .slice none 0 0] 102)) := (by repeat (first | exact Below.refl _ _ | refine Below.drew ?_ | refine below_drewN ?_ _ | refine Below.setCell ?_ (by first | omega | (simp; done) | (simp; omega)) _ | refine Below.alloc ?_ (by first | omega | (simp; done) | (simp; omega)) _))
  have hv0 := hv.below B0
  have HBad : ∀ c W, Below w.heap.size w W → (∃ u b0, Ending.returned (.agg #[.int .i64 c, .int .i64 0, .slice none 0 0]) = .returned u ∧ OwMirrorResult W u (badR c) b0 ∧ (∀ y ∈ b0, w.heap.size ≤ y) ∧ Below w.heap.size w W) := fun c W B => ⟨_, [], rfl, ⟨none, 0, rfl, Mat.nil _⟩, by simp, B⟩
  by_cases hq : isQ q
  · have KF := fun w h => impl_partsFault q v xs w h
    by_cases h0 : viewC q xs = 0
    · have h4 : xs.length = 4 := (viewC_zero h0).1
      have hok : okV q xs = true := by
        unfold viewC at h0
        rw [if_pos h4] at h0
        split at h0
        · assumption
        · cases h0
      have HN : Hid (mirrorOfR q xs = ⟨0, ⟨q, mirRows xs⟩⟩) := by show _ = _; unfold mirrorOfR; rw [if_pos hq, if_pos h4, if_pos hok]
      have HSQ : Hid (Sq (mirRows xs)) := mirRows_sq h4
      have HL : Hid (xs.length = 4) := h4
      have HV : Hid (Reads w .i64 v xs) := hv
      rw [h0] at KF
      clear h0 hok HBad
      have Y1 := Y0.alloc (.cells (cells2 zero4) 85)
      have Z1 : Blk ((w.alloc (.cells #[.int .i64 0, .int .i64 0, .slice none 0 0] 102)).alloc (.cells (cells2 zero4) 85)) (w.heap.size + 1) 85 (cells2 zero4) := by simpa using Blk.new (w.alloc (.cells #[.int .i64 0, .int .i64 0, .slice none 0 0] 102)) 85 (cells2 zero4)
      have B1 : Below w.heap.size w ((w.alloc (.cells #[.int .i64 0, .int .i64 0, .slice none 0 0] 102)).alloc (.cells (cells2 zero4) 85)) := (by repeat (first | exact Below.refl _ _ | refine Below.drew ?_ | refine below_drewN ?_ _ | refine Below.setCell ?_ (by first | omega | (simp; done) | (simp; omega)) _ | refine Below.alloc ?_ (by first | omega | (simp; done) | (simp; omega)) _))
      go_enter Tryz.func146, Tryz.ntmps146
      go_wp2_with fail
      refine (impl_isRing_yes _ _ hq).mono ?_
      rintro e w' ⟨rfl, rfl⟩
      go_wp2_with fail
      refine (KF _ hv0).mono ?_
      rintro e w' ⟨rfl, rfl⟩
      go_wp2_with fail
      clear Y0 B0 hv0 hv KF h4
      go_loopw [19] (fun i wr => ∃ k : Nat, ∃ yss : List (List Int), k ≤ 4 ∧ i = .int .i64 k ∧ Sq yss ∧ (∀ j, j < k → yss.getD j [] = (mirRows xs).getD j []) ∧ Blk wr w.heap.size 102 #[.int .i64 0, .int .i64 0, .slice none 0 0] ∧ Blk wr (w.heap.size + 1) 85 (cells2 yss) ∧ Below w.heap.size w wr) (fun i _ => 4 - (intOf i).toNat)
      case atStart => exact ⟨0, zero4, Nat.zero_le _, rfl, Sq.of .., fun j hj => by omega, Y1, Z1, B1⟩
      case round =>
        clear Y1 Z1 B1
        obtain ⟨k, yss, hk, rfl, hsq, heq, Y, Z, B⟩ := hrel
        by_cases hlt : k < 4
        · have hrow := HSQ.out.2 k hlt
          have HR : Hid ((mirRows xs).getD k [] = xs.set k 0) := mirRows_getD HL.out k hlt
          have HQ : Hid (Sq (yss.set k ((mirRows xs).getD k []))) := hsq.set k _ hrow
          have HE : Hid (∀ j, j < k + 1 → (yss.set k ((mirRows xs).getD k [])).getD j [] = (mirRows xs).getD j []) := fun j hj => by
            by_cases e : k = j
            · subst e
              have : k < yss.length := by rw [hsq.1]; exact hlt
              simp [this]
            · have := heq j (by omega)
              simpa [List.getD_eq_getElem?_getD, List.getElem?_set_ne e] using this
          have hi : (k : Int) < 4 := by omega
          clear heq hrow
          go_wp2_with fail
          refine (impl_viewOf _ xs _ (HV.out.below B) HL.out).mono ?_
          rintro e w2 ⟨rfl, hb2⟩
          have Y2 := Y.keep hb2
          have Z2 := Z.keep hb2
          have B2 := B.trans (hb2.mono B.size)
          clear Y Z B hb2
          go_wp2_with fail
          refine (impl_without xs k _ HL.out hlt).mono ?_
          rintro e w3 ⟨rfl, hb3⟩
          have Y3 := Y2.keep hb3
          have Z3 := Z2.keep hb3
          have B3 := B2.trans (hb3.mono B2.size)
          clear Y2 Z2 B2 hb3
          obtain ⟨x0, x1, x2, x3, hx⟩ := four (xs.set k 0) (by rw [List.length_set]; exact HL.out)
          rw [HR.out] at HQ HE
          rw [hx] at HQ HE ⊢
          rw [ag4]
          clear hx HR
          obtain ⟨a0, a1, a2, a3, b0, b1, b2, b3, c0, c1, c2, c3, d0, d1, d2, d3, rfl⟩ := hsq.lit
          rw [cells2_lit] at Z3
          have za := Z3.at.1
          have zb := Z3.at.2
          have zl := Z3.lt
          obtain rfl | rfl | rfl | rfl : k = 0 ∨ k = 1 ∨ k = 2 ∨ k = 3 := by omega
          · go_wp2
            go_roundw
            case rel => exact ⟨1, _, by omega, rfl, HQ.out, HE.out, ((((Y3.setOther _ _ (by simp)).setOther _ _ (by simp)).setOther _ _ (by simp)).setOther _ _ (by simp)), Blk.of_eq ((((Z3.set 0 _).set 1 _).set 2 _).set 3 _) rfl, ((((B3.setCell (by simp) _).setCell (by simp) _).setCell (by simp) _).setCell (by simp) _)⟩
            case measure => simp [intOf]
          · go_wp2
            go_roundw
            case rel => exact ⟨2, _, by omega, rfl, HQ.out, HE.out, ((((Y3.setOther _ _ (by simp)).setOther _ _ (by simp)).setOther _ _ (by simp)).setOther _ _ (by simp)), Blk.of_eq ((((Z3.set 4 _).set 5 _).set 6 _).set 7 _) rfl, ((((B3.setCell (by simp) _).setCell (by simp) _).setCell (by simp) _).setCell (by simp) _)⟩
            case measure => simp [intOf]
          · go_wp2
            go_roundw
            case rel => exact ⟨3, _, by omega, rfl, HQ.out, HE.out, ((((Y3.setOther _ _ (by simp)).setOther _ _ (by simp)).setOther _ _ (by simp)).setOther _ _ (by simp)), Blk.of_eq ((((Z3.set 8 _).set 9 _).set 10 _).set 11 _) rfl, ((((B3.setCell (by simp) _).setCell (by simp) _).setCell (by simp) _).setCell (by simp) _)⟩
            case measure => simp [intOf]
          · go_wp2
            go_roundw
            case rel => exact ⟨4, _, by omega, rfl, HQ.out, HE.out, ((((Y3.setOther _ _ (by simp)).setOther _ _ (by simp)).setOther _ _ (by simp)).setOther _ _ (by simp)), Blk.of_eq ((((Z3.set 12 _).set 13 _).set 14 _).set 15 _) rfl, ((((B3.setCell (by simp) _).setCell (by simp) _).setCell (by simp) _).setCell (by simp) _)⟩
            case measure => simp [intOf]
        · obtain rfl : k = 4 := by omega
          have e : yss = mirRows xs := Sq.ext hsq HSQ.out fun j hj => heq j hj
          subst e
          clear heq
          have KR := fun w => impl_views_result q (mirRows xs) w HSQ.out
          obtain ⟨a0, a1, a2, a3, b0, b1, b2, b3, c0, c1, c2, c3, d0, d1, d2, d3, hx⟩ := hsq.lit
          rw [hx] at Z KR
          rw [cells2_lit] at Z
          rw [ag2_lit] at KR
          have HX : Hid (mirRows xs = [[a0, a1, a2, a3], [b0, b1, b2, b3], [c0, c1, c2, c3], [d0, d1, d2, d3]]) := hx
          clear hx hsq HSQ
          have za := Z.at.1
          go_wp2_with fail
          refine (KR _).mono ?_
          rintro e w3 ⟨u, b0', rfl, hT, hf, hb3⟩
          obtain ⟨pp, cc, rfl, hM⟩ := hT
          have Y3 := Y.keep hb3
          have yl := Y.lt
          have B3 := B.trans (hb3.mono B.size)
          have hf' : ∀ y ∈ b0', w.heap.size < y := fun y hy => by have := hf y hy; omega
          have ya := Y3.at.1
          have yb := Y3.at.2
          have OO : ∀ W, Off [w.heap.size] w3 W → (∃ u b0, Ending.returned (.agg #[.int .i64 0, .int .i64 q, .slice pp 4 cc]) = .returned u ∧ OwMirrorResult W u (mirrorOfR q xs) b0 ∧ (∀ y ∈ b0, w.heap.size ≤ y) ∧ Below w.heap.size w W) := fun W OO => ⟨_, b0', rfl, by rw [HN.out, HX.out]; exact ⟨pp, cc, rfl, hM.off OO (fun x hx hm => by have := hf' x hx; simp at hm; omega)⟩, fun y hy => by have := hf' y hy; omega, B3.trans (OO.toBelow B3.size (by simp))⟩
          clear Y Z B KR za hM hf hf' hb3
          dsimp only [List.length_cons, List.length_nil]
          go_wp2
          exact bodyPost_ret (v := .agg #[.int .i64 0, .int .i64 q, .slice pp 4 cc]) (by simp [results, Tryz.results146, go_sem, ya]) rfl (OO _ ((((Off.refl _ _).setCell _ _ (by simp)).setCell _ _ (by simp)).setCell _ _ (by simp)))
    · have HN : Hid (mirrorOfR q xs = badR (viewC q xs)) := by
        show _ = _
        unfold mirrorOfR viewC at *
        rw [if_pos hq]
        split
        · rename_i h4
          rw [if_pos h4] at h0
          split
          · rename_i hk
            rw [if_pos hk] at h0
            exact absurd rfl h0
          · rfl
        · rfl
      have hne : (viewC q xs == 0) = false := by simpa using h0
      clear h0
      rw [HN.out]
      generalize viewC q xs = r at *
      have HBadW := HBad
      have OO : ∀ W, Off [w.heap.size] (w.alloc (.cells #[.int .i64 0, .int .i64 0, .slice none 0 0] 102)) W → (∃ u b0, Ending.returned (.agg #[.int .i64 r, .int .i64 0, .slice none 0 0]) = .returned u ∧ OwMirrorResult W u (badR r) b0 ∧ (∀ y ∈ b0, w.heap.size ≤ y) ∧ Below w.heap.size w W) := fun W OO => HBad r W (B0.trans (OO.toBelow B0.size (by simp)))
      clear HBad
      go_enter Tryz.func146, Tryz.ntmps146
      go_wp2_with fail
      refine (impl_isRing_yes _ _ hq).mono ?_
      rintro e w' ⟨rfl, rfl⟩
      go_wp2_with fail
      refine (KF _ hv0).mono ?_
      rintro e w' ⟨rfl, rfl⟩
      go_wp2
      exact bodyPost_ret (v := .agg #[.int .i64 r, .int .i64 0, .slice none 0 0]) (by simp [results, Tryz.results146, go_sem]) rfl (HBadW r _ (by repeat (first | exact Below.refl _ _ | refine Below.drew ?_ | refine below_drewN ?_ _ | refine Below.setCell ?_ (by first | omega | (simp; done) | (simp; omega)) _ | refine Below.alloc ?_ (by first | omega | (simp; done) | (simp; omega)) _)))
  · have HN : Hid (mirrorOfR q xs = badR 3) := by show _ = _; unfold mirrorOfR; rw [if_neg hq]
    rw [HN.out]
    go_enter Tryz.func146, Tryz.ntmps146
    go_wp2_with fail
    refine (impl_isRing_no _ _ hq).mono ?_
    rintro e w' ⟨rfl, rfl⟩
    go_wp2
    exact bodyPost_ret (v := .agg #[.int .i64 3, .int .i64 0, .slice none 0 0]) (by simp [results, Tryz.results146, go_sem]) rfl (HBad 3 _ (by repeat (first | exact Below.refl _ _ | refine Below.drew ?_ | refine below_drewN ?_ _ | refine Below.setCell ?_ (by first | omega | (simp; done) | (simp; omega)) _ | refine Below.alloc ?_ (by first | omega | (simp; done) | (simp; omega)) _)))
end Go.Proofs.YtepobckhfodngaoGreat
