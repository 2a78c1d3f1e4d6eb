/-
  Contracts of chapter 3 of the program: mirrors that are alike, and what they are worth.
-/
import Derived.Test.YtepobckhfodngabGreatMirQ
namespace Go.Proofs.YtepobckhfodngabGreat
open Go.ChangeShapes Go.WideShapes Go.ChangeAt Go.RowKit
set_option linter.unusedVariables false

set_option maxHeartbeats 4000000 in
set_option maxRecDepth 100000 in
theorem impl_IsAlike (v : Value) (x : MMirror) (but : Int) (w : World) (hv : RdMirror w v x) :
    Calls Tryz.prog 9 #[v, .int .i64 but] w fun e w' => e = .returned (.bool (isAlikeR x.xQ x.xViews but)) ∧ Below w.heap.size w w' := by
  obtain ⟨p, c, rfl, hv⟩ := hv
  obtain ⟨q, xss⟩ := x
  dsimp only at hv ⊢
  have B0 : Below w.heap.size w (w.alloc (.cells #[.int .i64 q, .slice p xss.length c] 38)) := (by repeat (first | exact Below.refl _ _ | refine Below.drew ?_ | refine below_drewN ?_ _ | refine Below.setCell ?_ (by first | omega | (simp; done) | (simp; omega)) _ | refine Below.alloc ?_ (by first | omega | (simp; done) | (simp; omega)) _))
  have X0 := Blk.new w 38 #[.int .i64 q, .slice p xss.length c]
  have HV : Hid (∀ W, Below w.heap.size w W → RdMirror W (.agg #[.int .i64 q, .slice p xss.length c]) ⟨q, xss⟩) := fun W B => ⟨p, c, rfl, hv.below B⟩
  have K := fun w h => impl_MirrorFault (.agg #[.int .i64 q, .slice p xss.length c]) ⟨q, xss⟩ w h
  dsimp only at K
  clear hv
  by_cases h0 : mirC q xss = 0
  · obtain ⟨hq, h4, hr, hx, ho⟩ := mirC_zero h0
    have HSQ : Hid (Sq xss) := ⟨h4, hr⟩
    have HE : Hid (isAlikeR q xss but = (isBut but && isWholeB xss (wholeL xss but 4) but)) := by show _ = _; unfold isAlikeR; rw [h0, isWhole_alike but ⟨h4, hr⟩ ho]; simp
    rw [h0] at K
    have KV := fun w h => impl_viewsOf (.agg #[.int .i64 q, .slice p xss.length c]) ⟨q, xss⟩ w h HSQ.out
    have KW := fun w => impl_whole xss but w HSQ.out
    have KI := fun w => impl_isWhole xss (wholeL xss but 4) but w HSQ.out (wholeL_length ..)
    dsimp only at KV
    obtain ⟨p0, p1, p2, p3, hp⟩ := four _ (wholeL_length xss but 4)
    generalize isWholeB xss (wholeL xss but 4) but = bw at *
    rw [hp, ag4] at KW KI
    obtain ⟨a0, a1, a2, a3, b0, b1, b2, b3, c0, c1, c2, c3, d0, d1, d2, d3, hxs⟩ := HSQ.out.lit
    have e16 : ag2 xss = .agg #[.int .i64 a0, .int .i64 a1, .int .i64 a2, .int .i64 a3, .int .i64 b0, .int .i64 b1, .int .i64 b2, .int .i64 b3, .int .i64 c0, .int .i64 c1, .int .i64 c2, .int .i64 c3, .int .i64 d0, .int .i64 d1, .int .i64 d2, .int .i64 d3] := by rw [hxs]; rfl
    rw [e16] at KV KW KI
    clear e16 hxs hp h0 h4 hr hx ho
    go_enter Tryz.func9, Tryz.ntmps9
    go_wp2_with fail
    refine (K _ (HV.out _ B0)).mono ?_
    rintro e w1 ⟨rfl, hb1⟩
    replace X0 := X0.keep hb1
    replace B0 : Below w.heap.size w w1 := B0.trans (hb1.mono B0.size)
    have xa := X0.at.1
    clear hb1
    go_wp2_with fail
    refine (impl_isPartyOrNobody _ _).mono ?_
    rintro e w2 ⟨rfl, rfl⟩
    cases hbt : isBut but
    · go_wp2
      go_ret
      exact ⟨by rw [HE.out, hbt]; rfl, B0⟩
    · go_wp2_with fail
      refine (KV _ (HV.out _ B0)).mono ?_
      rintro e w3 ⟨rfl, hb3⟩
      have B3 : Below w.heap.size w w3 := B0.trans (hb3.mono B0.size)
      have Z3 := Blk.new w3 73 #[.int .i64 a0, .int .i64 a1, .int .i64 a2, .int .i64 a3, .int .i64 b0, .int .i64 b1, .int .i64 b2, .int .i64 b3, .int .i64 c0, .int .i64 c1, .int .i64 c2, .int .i64 c3, .int .i64 d0, .int .i64 d1, .int .i64 d2, .int .i64 d3]
      have B4 := B3.alloc B3.size (.cells #[.int .i64 a0, .int .i64 a1, .int .i64 a2, .int .i64 a3, .int .i64 b0, .int .i64 b1, .int .i64 b2, .int .i64 b3, .int .i64 c0, .int .i64 c1, .int .i64 c2, .int .i64 c3, .int .i64 d0, .int .i64 d1, .int .i64 d2, .int .i64 d3] 73)
      have hS := Z3.at.1
      clear xa X0 B0 hb3 B3
      go_wp2_with fail
      go_region_held3 (fun V => ∀ o, V.cell? ⟨w3.heap.size, o, none⟩ = (#[.int .i64 a0, .int .i64 a1, .int .i64 a2, .int .i64 a3, .int .i64 b0, .int .i64 b1, .int .i64 b2, .int .i64 b3, .int .i64 c0, .int .i64 c1, .int .i64 c2, .int .i64 c3, .int .i64 d0, .int .i64 d1, .int .i64 d2, .int .i64 d3] : Array Value)[o]?) (first | exact hS | exact hS2 | exact hS3) (first | (go_at_call 44; refine (KW _).mono ?_; rintro e w9 ⟨rfl, hb9⟩; have Z5 := Z3.drew.keep hb9; have B5 := B4.drew.trans (hb9.mono B4.size); have hS2 := Z5.at.1; clear hb9) | (go_at_call 43; refine (KI _).mono ?_; rintro e w8 ⟨rfl, hb8⟩; have Z6 := Z5.keep hb8; have B6 := B5.trans (hb8.mono B5.size); have hS3 := Z6.at.1; clear hb8))
      go_wp2
      go_ret
      exact ⟨by rw [HE.out, hbt]; rfl, B6⟩
  · have HE : Hid (isAlikeR q xss but = false) := by show _ = _; unfold isAlikeR; simp [h0]
    have hne : (mirC q xss != 0) = true := by simpa using h0
    clear h0
    generalize mirC q xss = r at *
    go_enter Tryz.func9, Tryz.ntmps9
    go_wp2_with fail
    refine (K _ (HV.out _ B0)).mono ?_
    rintro e w1 ⟨rfl, hb1⟩
    replace B0 : Below w.heap.size w w1 := B0.trans (hb1.mono B0.size)
    go_wp2
    go_ret
    exact ⟨by rw [HE.out]; rfl, B0⟩
end Go.Proofs.YtepobckhfodngabGreat
