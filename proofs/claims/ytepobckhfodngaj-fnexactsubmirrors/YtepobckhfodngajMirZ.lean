/-
  Contracts of chapter 3 of the program: sums and differences of mirrors.
-/
import Derived.Test.YtepobckhfodngajMirY
import Derived.Test.YtepobckhfodngajSh
namespace Go.Proofs.Ytepobckhfodngaj
open Go.ChangeShapes Go.WideShapes Go.ChangeAt Go.RowKit
set_option linter.unusedVariables false

set_option maxHeartbeats 2000000 in
theorem impl_joinFault (v v' : Value) (x y : MMirror) (w : World) (hv : RdMirror w v x) (hv' : RdMirror w v' y) :
    Calls Try.prog 45 #[v, v'] w fun e w' => e = .returned (.int .i64 (bothC x.xQ x.xViews y.xQ y.xViews)) ∧ Below w.heap.size w w' := by
  obtain ⟨p, c, rfl, hv⟩ := hv
  obtain ⟨p', c', rfl, hv'⟩ := hv'
  obtain ⟨q, xss⟩ := x
  obtain ⟨q', yss⟩ := y
  dsimp only at hv hv' ⊢
  have B0 : Below w.heap.size w ((w.alloc (.cells #[.int .i64 q, .slice p xss.length c] 26)).alloc (.cells #[.int .i64 q', .slice p' yss.length c'] 26)) := (by repeat (first | exact Below.refl _ _ | refine Below.drew ?_ | refine below_drewN ?_ _ | refine Below.setCell ?_ (by first | omega | (simp; done) | (simp; omega)) _ | refine Below.alloc ?_ (by first | omega | (simp; done) | (simp; omega)) _))
  have X0 : Blk ((w.alloc (.cells #[.int .i64 q, .slice p xss.length c] 26)).alloc (.cells #[.int .i64 q', .slice p' yss.length c'] 26)) w.heap.size 26 #[.int .i64 q, .slice p xss.length c] := (Blk.new w _ _).alloc _
  have Y0 : Blk ((w.alloc (.cells #[.int .i64 q, .slice p xss.length c] 26)).alloc (.cells #[.int .i64 q', .slice p' yss.length c'] 26)) (w.heap.size + 1) 26 #[.int .i64 q', .slice p' yss.length c'] := by simpa using Blk.new (w.alloc (.cells #[.int .i64 q, .slice p xss.length c] 26)) 26 #[.int .i64 q', .slice p' yss.length c']
  have HV : Hid (∀ W, Below w.heap.size w W → RdMirror W (.agg #[.int .i64 q, .slice p xss.length c]) ⟨q, xss⟩) := fun W B => ⟨p, c, rfl, hv.below B⟩
  have HV' : Hid (∀ W, Below w.heap.size w W → RdMirror W (.agg #[.int .i64 q', .slice p' yss.length c']) ⟨q', yss⟩) := fun W B => ⟨p', c', rfl, hv'.below B⟩
  have K := fun w h => impl_MirrorFault (.agg #[.int .i64 q, .slice p xss.length c]) ⟨q, xss⟩ w h
  have K' := fun w h => impl_MirrorFault (.agg #[.int .i64 q', .slice p' yss.length c']) ⟨q', yss⟩ w h
  dsimp only at K K'
  clear hv hv'
  by_cases h0 : mirC q xss = 0
  · rw [h0] at K
    by_cases h1 : mirC q' yss = 0
    · rw [h1] at K'
      by_cases e : q = q'
      · have HN : Hid (bothC q xss q' yss = 0) := bothC_ok h0 h1 e
        have hne : (q != q') = false := by simpa using e
        clear h0 h1 e
        go_enter Try.func45, Try.ntmps45
        go_wp2_with fail
        refine (K _ (HV.out _ B0)).mono ?_
        rintro e w1 ⟨rfl, hb1⟩
        replace X0 := X0.keep hb1
        replace Y0 := Y0.keep hb1
        replace B0 : Below w.heap.size w w1 := B0.trans (hb1.mono B0.size)
        have ya := Y0.at.1
        go_wp2_with fail
        refine (K' _ (HV'.out _ B0)).mono ?_
        rintro e w2 ⟨rfl, hb2⟩
        replace X0 := X0.keep hb2
        replace Y0 := Y0.keep hb2
        replace B0 : Below w.heap.size w w2 := B0.trans (hb2.mono B0.size)
        clear ya
        have xa := X0.at.1
        have ya := Y0.at.1
        go_wp2
        go_ret
        exact ⟨by rw [HN.out]; rfl, B0⟩
      · have HN : Hid (bothC q xss q' yss = 1) := bothC_q h0 h1 e
        have hne : (q != q') = true := by simpa using e
        clear h0 h1 e
        go_enter Try.func45, Try.ntmps45
        go_wp2_with fail
        refine (K _ (HV.out _ B0)).mono ?_
        rintro e w1 ⟨rfl, hb1⟩
        replace X0 := X0.keep hb1
        replace Y0 := Y0.keep hb1
        replace B0 : Below w.heap.size w w1 := B0.trans (hb1.mono B0.size)
        have ya := Y0.at.1
        go_wp2_with fail
        refine (K' _ (HV'.out _ B0)).mono ?_
        rintro e w2 ⟨rfl, hb2⟩
        replace X0 := X0.keep hb2
        replace Y0 := Y0.keep hb2
        replace B0 : Below w.heap.size w w2 := B0.trans (hb2.mono B0.size)
        clear ya
        have xa := X0.at.1
        have ya := Y0.at.1
        go_wp2
        go_ret
        exact ⟨by rw [HN.out]; rfl, B0⟩
    · have HN : Hid (bothC q xss q' yss = mirC q' yss) := bothC_b h0 h1
      have hne : (mirC q' yss == 0) = false := by simpa using h1
      clear h0 h1
      generalize mirC q' yss = r at *
      go_enter Try.func45, Try.ntmps45
      go_wp2_with fail
      refine (K _ (HV.out _ B0)).mono ?_
      rintro e w1 ⟨rfl, hb1⟩
      replace Y0 := Y0.keep hb1
      replace B0 : Below w.heap.size w w1 := B0.trans (hb1.mono B0.size)
      have ya := Y0.at.1
      go_wp2_with fail
      refine (K' _ (HV'.out _ B0)).mono ?_
      rintro e w2 ⟨rfl, hb2⟩
      replace B0 : Below w.heap.size w w2 := B0.trans (hb2.mono B0.size)
      go_wp2
      go_ret
      exact ⟨by rw [HN.out]; rfl, B0⟩
  · have HN : Hid (bothC q xss q' yss = mirC q xss) := bothC_a h0
    have hne : (mirC q xss == 0) = false := by simpa using h0
    clear h0
    generalize mirC q xss = r at *
    go_enter Try.func45, Try.ntmps45
    go_wp2_with fail
    refine (K _ (HV.out _ B0)).mono ?_
    rintro e w1 ⟨rfl, hb1⟩
    replace B0 : Below w.heap.size w w1 := B0.trans (hb1.mono B0.size)
    go_wp2
    go_ret
    exact ⟨by rw [HN.out]; rfl, B0⟩
end Go.Proofs.Ytepobckhfodngaj
