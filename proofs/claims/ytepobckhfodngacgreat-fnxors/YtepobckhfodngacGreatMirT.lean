/-
  Contracts of chapter 3 of the program: what mirrors are worth.
-/
import Derived.Test.YtepobckhfodngacGreatMirQ
import Derived.Deep.RegionWith
namespace Go.Proofs.YtepobckhfodngacGreat
open Go.ChangeShapes Go.WideShapes Go.ChangeAt Go.RowKit
set_option linter.unusedVariables false

set_option maxHeartbeats 8000000 in
set_option maxRecDepth 100000 in
theorem impl_ValueOf (v : Value) (x : MMirror) (but : Int) (w : World) (hv : RdMirror w v x) :
    Calls Tryz.prog 12 #[v, .int .i64 but] w fun e w' => ∃ u, e = .returned u ∧ RdIntResult w' u (valueR x.xQ x.xViews but) ∧ Below w.heap.size w w' := by
  obtain ⟨p, c, rfl, hv⟩ := hv
  obtain ⟨q, xss⟩ := x
  dsimp only at hv ⊢
  have B0 : Below w.heap.size w ((w.alloc (.cells #[.int .i64 q, .slice p xss.length c] 35)).alloc (.cells #[.int .i64 0, .int .i64 0] 44)) := (by repeat (first | exact Below.refl _ _ | refine Below.drew ?_ | refine below_drewN ?_ _ | refine Below.setCell ?_ (by first | omega | (simp; done) | (simp; omega)) _ | refine Below.alloc ?_ (by first | omega | (simp; done) | (simp; omega)) _))
  have X0 := (Blk.new w 35 #[.int .i64 q, .slice p xss.length c]).alloc (.cells #[.int .i64 0, .int .i64 0] 44)
  have Y0 : Blk ((w.alloc (.cells #[.int .i64 q, .slice p xss.length c] 35)).alloc (.cells #[.int .i64 0, .int .i64 0] 44)) (w.heap.size + 1) 44 #[.int .i64 0, .int .i64 0] := by simpa using Blk.new (w.alloc (.cells #[.int .i64 q, .slice p xss.length c] 35)) 44 #[.int .i64 0, .int .i64 0]
  have HV : Hid (∀ W, Below w.heap.size w W → RdMirror W (.agg #[.int .i64 q, .slice p xss.length c]) ⟨q, xss⟩) := fun W B => ⟨p, c, rfl, hv.below B⟩
  have K := fun w h => impl_MirrorFault (.agg #[.int .i64 q, .slice p xss.length c]) ⟨q, xss⟩ w h
  dsimp only at K
  clear hv
  by_cases h0 : mirC q xss = 0
  · obtain ⟨hq, h4, hr, hx, ho⟩ := mirC_zero h0
    have HSQ : Hid (Sq xss) := ⟨h4, hr⟩
    have HW : Hid (isWholeB xss (wholeL xss but 4) but = alikeB xss but) := isWhole_alike but ⟨h4, hr⟩ ho
    have HR := @valueR_but q xss but h0
    have HR2 := @valueR_state q xss but h0
    have HR3 := @valueR_ok q xss but h0
    have HPB : Hid (∀ j : Nat, 0 ≤ (wholeL xss but 4).getD j 0 ∧ (wholeL xss but 4).getD j 0 < q) := fun j => by
      by_cases hj : j < 4
      · rw [wholeL_getD _ _ _ hj]; exact hx _ _
      · rw [List.getD_eq_getElem?_getD, List.getElem?_eq_none (by rw [wholeL_length]; omega)]
        simp
        rcases hq with h | h <;> omega
    rw [h0] at K
    have KV := fun w h => impl_viewsOf (.agg #[.int .i64 q, .slice p xss.length c]) ⟨q, xss⟩ w h HSQ.out
    have KW := fun w => impl_whole xss but w HSQ.out
    have KI := fun w => impl_isWhole xss (wholeL xss but 4) but w HSQ.out (wholeL_length ..)
    dsimp only at KV
    obtain ⟨p0, p1, p2, p3, hp⟩ := four _ (wholeL_length xss but 4)
    have HP : Hid (wholeL xss but 4 = [p0, p1, p2, p3]) := hp
    rw [HW.out] at KI
    rw [hp, ag4] at KW KI
    obtain ⟨a0, a1, a2, a3, b0, b1, b2, b3, c0, c1, c2, c3, d0, d1, d2, d3, hxs⟩ := HSQ.out.lit
    have e16 : ag2 xss = .agg #[.int .i64 a0, .int .i64 a1, .int .i64 a2, .int .i64 a3, .int .i64 b0, .int .i64 b1, .int .i64 b2, .int .i64 b3, .int .i64 c0, .int .i64 c1, .int .i64 c2, .int .i64 c3, .int .i64 d0, .int .i64 d1, .int .i64 d2, .int .i64 d3] := by rw [hxs]; rfl
    rw [e16] at KV KW KI
    clear e16 hxs hp h0 h4 hr hx ho HW
    go_enter Tryz.func12, Tryz.ntmps12
    go_wp2_with fail
    refine (K _ (HV.out _ B0)).mono ?_
    rintro e w1 ⟨rfl, hb1⟩
    replace X0 := X0.keep hb1
    replace Y0 := Y0.keep hb1
    replace B0 : Below w.heap.size w w1 := B0.trans (hb1.mono B0.size)
    clear hb1 K
    go_wp2_with fail
    refine (impl_isPartyOrNobody _ _).mono ?_
    rintro e w2 ⟨rfl, rfl⟩
    cases hbt : isBut but
    · have ya := Y0.at.1
      have yb := Y0.at.2
      go_wp2
      exact bodyPost_ret (v := .agg #[.int .i64 3, .int .i64 0]) (by simp [results, Tryz.results12, go_sem, ya]) rfl ⟨_, rfl, by rw [HR hbt]; rfl, (by have zz0 := (B0).size; (try simp at zz0); repeat (first | exact Below.refl _ _ | refine Below.drew ?_ | refine below_drewN ?_ _ | refine Below.setCell ?_ (by first | omega | (simp; done) | (simp; omega)) _ | refine Below.alloc ?_ (by first | omega | (simp; done) | (simp; omega)) _ | refine bcall ?_ B0 (by first | omega | (simp; done) | (simp; omega))))⟩
    · have xa := X0.at.1
      go_wp2_with fail
      refine (KV _ (HV.out _ B0)).mono ?_
      rintro e w3 ⟨rfl, hb3⟩
      replace X0 := (X0.keep hb3).alloc (.cells #[.int .i64 a0, .int .i64 a1, .int .i64 a2, .int .i64 a3, .int .i64 b0, .int .i64 b1, .int .i64 b2, .int .i64 b3, .int .i64 c0, .int .i64 c1, .int .i64 c2, .int .i64 c3, .int .i64 d0, .int .i64 d1, .int .i64 d2, .int .i64 d3] 80)
      replace Y0 := (Y0.keep hb3).alloc (.cells #[.int .i64 a0, .int .i64 a1, .int .i64 a2, .int .i64 a3, .int .i64 b0, .int .i64 b1, .int .i64 b2, .int .i64 b3, .int .i64 c0, .int .i64 c1, .int .i64 c2, .int .i64 c3, .int .i64 d0, .int .i64 d1, .int .i64 d2, .int .i64 d3] 80)
      replace B0 : Below w.heap.size w w3 := B0.trans (hb3.mono B0.size)
      replace B0 := B0.alloc B0.size (.cells #[.int .i64 a0, .int .i64 a1, .int .i64 a2, .int .i64 a3, .int .i64 b0, .int .i64 b1, .int .i64 b2, .int .i64 b3, .int .i64 c0, .int .i64 c1, .int .i64 c2, .int .i64 c3, .int .i64 d0, .int .i64 d1, .int .i64 d2, .int .i64 d3] 80)
      have Z0 := Blk.new w3 80 #[.int .i64 a0, .int .i64 a1, .int .i64 a2, .int .i64 a3, .int .i64 b0, .int .i64 b1, .int .i64 b2, .int .i64 b3, .int .i64 c0, .int .i64 c1, .int .i64 c2, .int .i64 c3, .int .i64 d0, .int .i64 d1, .int .i64 d2, .int .i64 d3]
      clear hb3 KV xa
      have za := Z0.at.1
      go_wp2_with fail
      refine (KW _).mono ?_
      rintro e w4 ⟨rfl, hb4⟩
      replace X0 := (X0.keep hb4).alloc (.cells #[.int .i64 p0, .int .i64 p1, .int .i64 p2, .int .i64 p3] 78)
      replace Y0 := (Y0.keep hb4).alloc (.cells #[.int .i64 p0, .int .i64 p1, .int .i64 p2, .int .i64 p3] 78)
      replace Z0 := (Z0.keep hb4).alloc (.cells #[.int .i64 p0, .int .i64 p1, .int .i64 p2, .int .i64 p3] 78)
      replace B0 : Below w.heap.size w w4 := B0.trans (hb4.mono B0.size)
      replace B0 := B0.alloc B0.size (.cells #[.int .i64 p0, .int .i64 p1, .int .i64 p2, .int .i64 p3] 78)
      have W0 := Blk.new w4 78 #[.int .i64 p0, .int .i64 p1, .int .i64 p2, .int .i64 p3]
      clear hb4 KW za
      have za := Z0.at.1
      have wa := W0.at.1
      go_wp2_with fail
      refine (KI _).mono ?_
      rintro e w5 ⟨rfl, hb5⟩
      replace X0 := X0.keep hb5
      replace Y0 := Y0.keep hb5
      replace W0 := W0.keep hb5
      replace B0 : Below w.heap.size w w5 := B0.trans (hb5.mono B0.size)
      clear hb5 KI za wa Z0
      cases ha : alikeB xss but
      · have ya := Y0.at.1
        have yb := Y0.at.2
        go_wp2
        exact bodyPost_ret (v := .agg #[.int .i64 6, .int .i64 0]) (by simp [results, Tryz.results12, go_sem, ya]) rfl ⟨_, rfl, by rw [HR2 hbt ha]; rfl, (by have zz0 := (B0).size; (try simp at zz0); repeat (first | exact Below.refl _ _ | refine Below.drew ?_ | refine below_drewN ?_ _ | refine Below.setCell ?_ (by first | omega | (simp; done) | (simp; omega)) _ | refine Below.alloc ?_ (by first | omega | (simp; done) | (simp; omega)) _ | refine bcall ?_ B0 (by first | omega | (simp; done) | (simp; omega))))⟩
      · have HS4 : Hid (psum [p0, p1, p2, p3] 4 = sumK xss but 4) := by show _ = _; rw [← HP.out]; exact psum_alike ha 4 (Nat.le_refl _)
        have HR4 : Hid (valueR q xss but = ⟨0, sumK xss but 4 % q⟩) := HR3 hbt ha
        have hq1 : 2 ≤ q := by rcases hq with h | h <;> omega
        have hq2 : q ≤ 256 := by rcases hq with h | h <;> omega
        clear HR HR2 HR3 HV hbt ha hq
        rw [HP.out] at HPB
        have xa := X0.at.1
        go_wp2_with fail
        refine (impl_elementOf q 0 _ (by omega) (by omega) (by omega) (by omega)).mono ?_
        rintro e w6 ⟨rfl, hb6⟩
        replace X0 := (X0.keep hb6).alloc (.cells #[.int .u16 q, .int .u16 0] 99)
        have Yk := Y0.keep hb6
        replace Y0 := Yk.alloc (.cells #[.int .u16 q, .int .u16 0] 99)
        replace W0 := (W0.keep hb6).alloc (.cells #[.int .u16 q, .int .u16 0] 99)
        replace B0 : Below w.heap.size w w6 := B0.trans (hb6.mono B0.size)
        replace B0 := B0.alloc B0.size (.cells #[.int .u16 q, .int .u16 0] 99)
        have E0 := Blk.new w6 99 #[.int .u16 q, .int .u16 0]
        have hlt6 : w.heap.size + 1 < w6.heap.size := Yk.lt
        clear hb6 xa Yk
        have wa := W0.at.1
        go_wp2_with fail
        go_loopw [36] (fun i wr => ∃ k : Nat, k ≤ 4 ∧ i = .int .i64 k ∧ Blk wr w.heap.size 35 #[.int .i64 q, .slice p xss.length c] ∧ Blk wr (w.heap.size + 1) 44 #[.int .i64 0, .int .i64 0] ∧ Blk wr w6.heap.size 99 #[.int .u16 q, .int .u16 (psum [p0, p1, p2, p3] k % q)] ∧ Below w.heap.size w wr) (fun i _ => 4 - (intOf i).toNat)
        case atStart => exact ⟨0, Nat.zero_le _, rfl, X0, Y0, by simpa [psum] using E0, B0⟩
        case round =>
          clear X0 Y0 E0 B0 W0 wa
          obtain ⟨k, hk, rfl, X, Y, E, B⟩ := hrel
          by_cases hlt : k < 4
          · have ho := fun w => run_one p0 p1 p2 p3 k hlt w
            have hpb := HPB.out k
            have HN : Hid ((psum [p0, p1, p2, p3] k % q + [p0, p1, p2, p3].getD k 0) % q = psum [p0, p1, p2, p3] (k + 1) % q) := by show _ = _; rw [addmod]; rfl
            have s1 : 0 ≤ psum [p0, p1, p2, p3] k % q := Int.emod_nonneg _ (by omega)
            have s2 : psum [p0, p1, p2, p3] k % q < q := Int.emod_lt_of_pos _ (by omega)
            have hi : (k : Int) < 4 := by omega
            generalize [p0, p1, p2, p3].getD k 0 = y at *
            generalize psum [p0, p1, p2, p3] k % q = s at *
            obtain ⟨y1, y2⟩ := hpb
            have y3 : y ≤ 256 := by omega
            have q1 : 1 ≤ q := by omega
            have q0 : 0 ≤ q := by omega
            have xa := X.at.1
            have ea := E.at.1
            have eb := E.at.2
            go_wp2_with fail
            have tok : True := trivial
            have Xd := X.drew
            have Yd := Y.drew
            have Ed := E.drew
            have Bd := B.drew
            clear X Y E B hlt
            go_region_with (first | (go_at_call 49; have _t := tok; refine (impl_elementOf q y _ q0 hq2 y1 y3).mono ?_; rintro e w7 ⟨rfl, hb7⟩; have X7 := Xd.keep hb7; have Y7 := Yd.keep hb7; have E7 := Ed.keep hb7; have B7 := Bd.trans (hb7.mono Bd.size); have e7 := E7.at.1; clear tok) | (go_at_call 50; refine (impl_plus q s y _ q1 hq2 s1 s2 y1 y2).mono ?_; rintro e w8 ⟨rfl, hb8⟩; have X8 := X7.keep hb8; have Y8 := Y7.keep hb8; have E8 := E7.keep hb8; have B8 := B7.trans (hb8.mono B7.size); have e8 := E8.at.1; have f8 := E8.at.2))
            all_goals
              have E9 := (E8.set 0 (.int .u16 q)).set 1 (.int .u16 ((s + y) % q))
              rw [HN.out] at E9
              clear e8 f8 e7 E7 E8 X7 Y7 B7 Xd Yd Ed Bd xa ea eb hb7 hb8
              go_wp2
              go_roundw
              case rel => exact ⟨k + 1, by omega, by go_num, (X8.setOther _ _ (by simp; omega)).setOther _ _ (by simp; omega), (Y8.setOther _ _ (by simp; omega)).setOther _ _ (by simp; omega), by rw [HN.out]; simpa using E9, (B8.setCell (by simp; omega) _).setCell (by simp; omega) _⟩
              case measure => simp [intOf]; omega
          · obtain rfl : k = 4 := by omega
            have s1 : 0 ≤ psum [p0, p1, p2, p3] 4 % q := Int.emod_nonneg _ (by omega)
            have s2 : psum [p0, p1, p2, p3] 4 % q < q := Int.emod_lt_of_pos _ (by omega)
            have HF : Hid (valueR q xss but = ⟨0, psum [p0, p1, p2, p3] 4 % q⟩) := by show _ = _; rw [HR4.out, HS4.out]
            generalize psum [p0, p1, p2, p3] 4 % q = s at *
            have ea := E.at.1
            go_wp2_with fail
            refine (impl_result q s _ s1 (by omega)).mono ?_
            rintro e w7 ⟨rfl, hb7⟩
            have Y7 := Y.keep hb7
            have B7 := B.trans (hb7.mono B.size)
            clear ea
            have ya := Y7.at.1
            have yb := Y7.at.2
            go_wp2
            exact bodyPost_ret (v := .agg #[.int .i64 0, .int .i64 s]) (by simp [results, Tryz.results12, go_sem, ya]) rfl ⟨_, rfl, by rw [HF.out]; rfl, (by have zz0 := (B7).size; (try simp at zz0); repeat (first | exact Below.refl _ _ | refine Below.drew ?_ | refine below_drewN ?_ _ | refine Below.setCell ?_ (by first | omega | (simp; done) | (simp; omega)) _ | refine Below.alloc ?_ (by first | omega | (simp; done) | (simp; omega)) _ | refine bcall ?_ B7 (by first | omega | (simp; done) | (simp; omega))))⟩
  · rw [valueR_fault _ h0]
    have hne : (mirC q xss == 0) = false := by simpa using h0
    clear h0
    generalize mirC q xss = r at *
    go_enter Tryz.func12, Tryz.ntmps12
    go_wp2_with fail
    refine (K _ (HV.out _ B0)).mono ?_
    rintro e w1 ⟨rfl, hb1⟩
    replace Y0 := Y0.keep hb1
    replace B0 : Below w.heap.size w w1 := B0.trans (hb1.mono B0.size)
    have ya := Y0.at.1
    have yb := Y0.at.2
    go_wp2
    exact bodyPost_ret (v := .agg #[.int .i64 r, .int .i64 0]) (by simp [results, Tryz.results12, go_sem, ya]) rfl ⟨_, rfl, rfl, (by have zz0 := (B0).size; (try simp at zz0); repeat (first | exact Below.refl _ _ | refine Below.drew ?_ | refine below_drewN ?_ _ | refine Below.setCell ?_ (by first | omega | (simp; done) | (simp; omega)) _ | refine Below.alloc ?_ (by first | omega | (simp; done) | (simp; omega)) _ | refine bcall ?_ B0 (by first | omega | (simp; done) | (simp; omega))))⟩
end Go.Proofs.YtepobckhfodngacGreat
