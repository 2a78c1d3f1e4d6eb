/-
  Contracts of chapter 3 of the program: sums and differences of mirrors.
-/
import Derived.Test.YtepobckhfodngaiMirY
import Derived.Test.YtepobckhfodngaiSh
namespace Go.Proofs.Ytepobckhfodngai
open Go.ChangeShapes Go.WideShapes Go.ChangeAt Go.RowKit
set_option linter.unusedVariables false

set_option maxHeartbeats 2000000 in
theorem impl_joinFault (v v' : Value) (x y : MMirror) (w : World) (hv : RdMirror w v x) (hv' : RdMirror w v' y) :
    Calls Try.prog 64 #[v, v'] w fun e w' => e = .returned (.int .i64 (bothC x.xQ x.xViews y.xQ y.xViews)) ∧ Below w.heap.size w w' := by
  obtain ⟨p, c, rfl, hv⟩ := hv
  obtain ⟨p', c', rfl, hv'⟩ := hv'
  obtain ⟨q, xss⟩ := x
  obtain ⟨q', yss⟩ := y
  dsimp only at hv hv' ⊢
  have B0 : Below w.heap.size w ((w.alloc (.cells #[.int .i64 q, .slice p xss.length c] 34)).alloc (.cells #[.int .i64 q', .slice p' yss.length c'] 34)) := (by repeat (first | exact Below.refl _ _ | refine Below.drew ?_ | refine below_drewN ?_ _ | refine Below.setCell ?_ (by first | omega | (simp; done) | (simp; omega)) _ | refine Below.alloc ?_ (by first | omega | (simp; done) | (simp; omega)) _))
  have X0 : Blk ((w.alloc (.cells #[.int .i64 q, .slice p xss.length c] 34)).alloc (.cells #[.int .i64 q', .slice p' yss.length c'] 34)) w.heap.size 34 #[.int .i64 q, .slice p xss.length c] := (Blk.new w _ _).alloc _
  have Y0 : Blk ((w.alloc (.cells #[.int .i64 q, .slice p xss.length c] 34)).alloc (.cells #[.int .i64 q', .slice p' yss.length c'] 34)) (w.heap.size + 1) 34 #[.int .i64 q', .slice p' yss.length c'] := by simpa using Blk.new (w.alloc (.cells #[.int .i64 q, .slice p xss.length c] 34)) 34 #[.int .i64 q', .slice p' yss.length c']
  have HV : Hid (∀ W, Below w.heap.size w W → RdMirror W (.agg #[.int .i64 q, .slice p xss.length c]) ⟨q, xss⟩) := fun W B => ⟨p, c, rfl, hv.below B⟩
  have HV' : Hid (∀ W, Below w.heap.size w W → RdMirror W (.agg #[.int .i64 q', .slice p' yss.length c']) ⟨q', yss⟩) := fun W B => ⟨p', c', rfl, hv'.below B⟩
  have K := fun w h => impl_MirrorFault (.agg #[.int .i64 q, .slice p xss.length c]) ⟨q, xss⟩ w h
  have K' := fun w h => impl_MirrorFault (.agg #[.int .i64 q', .slice p' yss.length c']) ⟨q', yss⟩ w h
  dsimp only at K K'
  clear hv hv'
  by_cases h0 : mirC q xss = 0
  · rw [h0] at K
    by_cases h1 : mirC q' yss = 0
    · rw [h1] at K'
      by_cases e : q = q'
      · have HN : Hid (bothC q xss q' yss = 0) := bothC_ok h0 h1 e
        have hne : (q != q') = false := by simpa using e
        clear h0 h1 e
        go_enter Try.func64, Try.ntmps64
        go_wp2_with fail
        refine (K _ (HV.out _ B0)).mono ?_
        rintro e w1 ⟨rfl, hb1⟩
        replace X0 := X0.keep hb1
        replace Y0 := Y0.keep hb1
        replace B0 : Below w.heap.size w w1 := B0.trans (hb1.mono B0.size)
        have ya := Y0.at.1
        go_wp2_with fail
        refine (K' _ (HV'.out _ B0)).mono ?_
        rintro e w2 ⟨rfl, hb2⟩
        replace X0 := X0.keep hb2
        replace Y0 := Y0.keep hb2
        replace B0 : Below w.heap.size w w2 := B0.trans (hb2.mono B0.size)
        clear ya
        have xa := X0.at.1
        have ya := Y0.at.1
        go_wp2
        go_ret
        exact ⟨by rw [HN.out]; rfl, B0⟩
      · have HN : Hid (bothC q xss q' yss = 1) := bothC_q h0 h1 e
        have hne : (q != q') = true := by simpa using e
        clear h0 h1 e
        go_enter Try.func64, Try.ntmps64
        go_wp2_with fail
        refine (K _ (HV.out _ B0)).mono ?_
        rintro e w1 ⟨rfl, hb1⟩
        replace X0 := X0.keep hb1
        replace Y0 := Y0.keep hb1
        replace B0 : Below w.heap.size w w1 := B0.trans (hb1.mono B0.size)
        have ya := Y0.at.1
        go_wp2_with fail
        refine (K' _ (HV'.out _ B0)).mono ?_
        rintro e w2 ⟨rfl, hb2⟩
        replace X0 := X0.keep hb2
        replace Y0 := Y0.keep hb2
        replace B0 : Below w.heap.size w w2 := B0.trans (hb2.mono B0.size)
        clear ya
        have xa := X0.at.1
        have ya := Y0.at.1
        go_wp2
        go_ret
        exact ⟨by rw [HN.out]; rfl, B0⟩
    · have HN : Hid (bothC q xss q' yss = mirC q' yss) := bothC_b h0 h1
      have hne : (mirC q' yss == 0) = false := by simpa using h1
      clear h0 h1
      generalize mirC q' yss = r at *
      go_enter Try.func64, Try.ntmps64
      go_wp2_with fail
      refine (K _ (HV.out _ B0)).mono ?_
      rintro e w1 ⟨rfl, hb1⟩
      replace Y0 := Y0.keep hb1
      replace B0 : Below w.heap.size w w1 := B0.trans (hb1.mono B0.size)
      have ya := Y0.at.1
      go_wp2_with fail
      refine (K' _ (HV'.out _ B0)).mono ?_
      rintro e w2 ⟨rfl, hb2⟩
      replace B0 : Below w.heap.size w w2 := B0.trans (hb2.mono B0.size)
      go_wp2
      go_ret
      exact ⟨by rw [HN.out]; rfl, B0⟩
  · have HN : Hid (bothC q xss q' yss = mirC q xss) := bothC_a h0
    have hne : (mirC q xss == 0) = false := by simpa using h0
    clear h0
    generalize mirC q xss = r at *
    go_enter Try.func64, Try.ntmps64
    go_wp2_with fail
    refine (K _ (HV.out _ B0)).mono ?_
    rintro e w1 ⟨rfl, hb1⟩
    replace B0 : Below w.heap.size w w1 := B0.trans (hb1.mono B0.size)
    go_wp2
    go_ret
    exact ⟨by rw [HN.out]; rfl, B0⟩
set_option maxHeartbeats 8000000 in
set_option maxRecDepth 100000 in
theorem impl_AddMirrors (v v' : Value) (x y : MMirror) (w : World) (hv : RdMirror w v x) (hv' : RdMirror w v' y) :
    Calls Try.prog 33 #[v, v'] w fun e w' => ∃ u b0, e = .returned u ∧ OwMirrorResult w' u (joinR (fun x y => x + y) x y) b0 ∧ (∀ y ∈ b0, w.heap.size ≤ y) ∧ Below w.heap.size w w' := by
  obtain ⟨p, c, rfl, hv⟩ := hv
  obtain ⟨p', c', rfl, hv'⟩ := hv'
  obtain ⟨q, xss⟩ := x
  obtain ⟨q', yss⟩ := y
  dsimp only at hv hv' ⊢
  have B0 : Below w.heap.size w (((w.alloc (.cells #[.int .i64 q, .slice p xss.length c] 34)).alloc (.cells #[.int .i64 q', .slice p' yss.length c'] 34)).alloc (.cells #[.int .i64 0, .int .i64 0, .slice none 0 0] 40)) := (by repeat (first | exact Below.refl _ _ | refine Below.drew ?_ | refine below_drewN ?_ _ | refine Below.setCell ?_ (by first | omega | (simp; done) | (simp; omega)) _ | refine Below.alloc ?_ (by first | omega | (simp; done) | (simp; omega)) _))
  have X0 : Blk (((w.alloc (.cells #[.int .i64 q, .slice p xss.length c] 34)).alloc (.cells #[.int .i64 q', .slice p' yss.length c'] 34)).alloc (.cells #[.int .i64 0, .int .i64 0, .slice none 0 0] 40)) w.heap.size 34 #[.int .i64 q, .slice p xss.length c] := ((Blk.new w _ _).alloc _).alloc _
  have Y0 : Blk (((w.alloc (.cells #[.int .i64 q, .slice p xss.length c] 34)).alloc (.cells #[.int .i64 q', .slice p' yss.length c'] 34)).alloc (.cells #[.int .i64 0, .int .i64 0, .slice none 0 0] 40)) (w.heap.size + 1) 34 #[.int .i64 q', .slice p' yss.length c'] := (by simpa using Blk.new (w.alloc (.cells #[.int .i64 q, .slice p xss.length c] 34)) 34 #[.int .i64 q', .slice p' yss.length c'] : Blk ((w.alloc (.cells #[.int .i64 q, .slice p xss.length c] 34)).alloc (.cells #[.int .i64 q', .slice p' yss.length c'] 34)) (w.heap.size + 1) 34 #[.int .i64 q', .slice p' yss.length c']).alloc _
  have Z0 : Blk (((w.alloc (.cells #[.int .i64 q, .slice p xss.length c] 34)).alloc (.cells #[.int .i64 q', .slice p' yss.length c'] 34)).alloc (.cells #[.int .i64 0, .int .i64 0, .slice none 0 0] 40)) (w.heap.size + 1 + 1) 40 #[.int .i64 0, .int .i64 0, .slice none 0 0] := by simpa using Blk.new ((w.alloc (.cells #[.int .i64 q, .slice p xss.length c] 34)).alloc (.cells #[.int .i64 q', .slice p' yss.length c'] 34)) 40 #[.int .i64 0, .int .i64 0, .slice none 0 0]
  have HV : Hid (∀ W, Below w.heap.size w W → RdMirror W (.agg #[.int .i64 q, .slice p xss.length c]) ⟨q, xss⟩) := fun W B => ⟨p, c, rfl, hv.below B⟩
  have HV' : Hid (∀ W, Below w.heap.size w W → RdMirror W (.agg #[.int .i64 q', .slice p' yss.length c']) ⟨q', yss⟩) := fun W B => ⟨p', c', rfl, hv'.below B⟩
  have K := fun w h h' => impl_joinFault (.agg #[.int .i64 q, .slice p xss.length c]) (.agg #[.int .i64 q', .slice p' yss.length c']) ⟨q, xss⟩ ⟨q', yss⟩ w h h'
  dsimp only at K
  clear hv hv'
  by_cases h0 : bothC q xss q' yss = 0
  · obtain ⟨ha, hb, rfl⟩ := bothC_zero h0
    have HN : Hid (joinR (fun x y => x + y) ⟨q, xss⟩ ⟨q, yss⟩ = ⟨0, ⟨q, opRows (fun x y => x + y) q xss yss⟩⟩) := if_pos h0
    have sa : Sq xss := ⟨(mirC_zero ha).2.1, (mirC_zero ha).2.2.1⟩
    have sb : Sq yss := ⟨(mirC_zero hb).2.1, (mirC_zero hb).2.2.1⟩
    have KV := fun w h => impl_shareOf (.agg #[.int .i64 q, .slice p xss.length c]) ⟨q, xss⟩ w h sa
    have KV' := fun w h => impl_shareOf (.agg #[.int .i64 q, .slice p' yss.length c']) ⟨q, yss⟩ w h sb
    have KJ := fun w => impl_share_plus q q xss.flatten yss.flatten w (mirC_zero ha).1 (sh_ok16 sa (pt_bd ha)) (sh_ok16 sb (pt_bd hb))
    have KR := fun w => impl_share_result q (addF q xss.flatten yss.flatten) w (addF_len q _ _)
    have eo : unflat (addF q xss.flatten yss.flatten) = opRows (fun x y => x + y) q xss yss := by unfold addF; rw [sh_flat sa, sh_flat sb, sh_flat (opRows_sq ..)]
    rw [eo] at KR
    dsimp only at KV KV'
    have HO4 : Hid ((opRows (fun x y => x + y) q xss yss).length = 4) := (opRows_sq ..).1
    rw [h0] at K
    rw [HN.out]
    clear eo h0 ha hb HN sa sb
    generalize opRows (fun x y => x + y) q xss yss = oss at *
    generalize Value.agg (cells1 (q :: addF q xss.flatten yss.flatten)) = gc at *
    generalize Value.agg (cells1 (q :: xss.flatten)) = ga at *
    generalize Value.agg (cells1 (q :: yss.flatten)) = gb at *
    go_enter Try.func33, Try.ntmps33
    go_wp2_with fail
    refine (K _ (HV.out _ B0) (HV'.out _ B0)).mono ?_
    rintro e w1 ⟨rfl, hb1⟩
    replace X0 := X0.keep hb1
    replace Y0 := Y0.keep hb1
    replace Z0 := Z0.keep hb1
    replace B0 : Below w.heap.size w w1 := B0.trans (hb1.mono B0.size)
    clear hb1 K
    have hS0 : (∀ o, w1.cell? ⟨w.heap.size, o, none⟩ = (#[.int .i64 q, .slice p xss.length c] : Array Value)[o]?) ∧ (∀ o, w1.cell? ⟨w.heap.size + 1, o, none⟩ = (#[.int .i64 q, .slice p' yss.length c'] : Array Value)[o]?) := ⟨X0.at.1, Y0.at.1⟩
    have tok : True := trivial
    go_wp2_with fail
    go_region_held3 (fun V => (∀ o, V.cell? ⟨w.heap.size, o, none⟩ = (#[.int .i64 q, .slice p xss.length c] : Array Value)[o]?) ∧ (∀ o, V.cell? ⟨w.heap.size + 1, o, none⟩ = (#[.int .i64 q, .slice p' yss.length c'] : Array Value)[o]?)) (first | exact hS0 | exact hS2 | exact hS3 | exact hS4 | exact hS5 | exact HSO.out _ ((((Off.refl _ _).setCell _ _ (by simp)).setCell _ _ (by simp)).setCell _ _ (by simp))) (first | (go_at_call 65; have _t := tok; clear _t tok; refine (KV _ (HV.out _ B0.drew)).mono ?_; rintro e w2 ⟨rfl, hb2⟩; have X2 := X0.drew.keep hb2; have Y2 := Y0.drew.keep hb2; have Z2 := Z0.drew.keep hb2; have B2 := B0.drew.trans (hb2.mono B0.size); have hS2 := (show (∀ o, w2.cell? ⟨w.heap.size, o, none⟩ = (#[.int .i64 q, .slice p xss.length c] : Array Value)[o]?) ∧ (∀ o, w2.cell? ⟨w.heap.size + 1, o, none⟩ = (#[.int .i64 q, .slice p' yss.length c'] : Array Value)[o]?) from ⟨X2.at.1, Y2.at.1⟩); clear hb2) | (go_at_call 65; refine (KV' _ (HV'.out _ B2)).mono ?_; rintro e w3 ⟨rfl, hb3⟩; have X3 := X2.keep hb3; have Y3 := Y2.keep hb3; have Z3 := Z2.keep hb3; have B3 := B2.trans (hb3.mono B2.size); have hS3 := (show (∀ o, w3.cell? ⟨w.heap.size, o, none⟩ = (#[.int .i64 q, .slice p xss.length c] : Array Value)[o]?) ∧ (∀ o, w3.cell? ⟨w.heap.size + 1, o, none⟩ = (#[.int .i64 q, .slice p' yss.length c'] : Array Value)[o]?) from ⟨X3.at.1, Y3.at.1⟩); clear hb3) | (go_at_call 66; refine (KJ _).mono ?_; rintro e w4 ⟨rfl, hb4⟩; have X4 := X3.keep hb4; have Y4 := Y3.keep hb4; have Z4 := Z3.keep hb4; have B4 := B3.trans (hb4.mono B3.size); have hS4 := (show (∀ o, w4.cell? ⟨w.heap.size, o, none⟩ = (#[.int .i64 q, .slice p xss.length c] : Array Value)[o]?) ∧ (∀ o, w4.cell? ⟨w.heap.size + 1, o, none⟩ = (#[.int .i64 q, .slice p' yss.length c'] : Array Value)[o]?) from ⟨X4.at.1, Y4.at.1⟩); clear hb4) | (go_at_call 67; refine (KR _).mono ?_; rintro e w5 ⟨u, b0', rfl, hT, hf, hb5⟩; obtain ⟨pp, cc, rfl, hM⟩ := hT; have X5 := X4.keep hb5; have Y5 := Y4.keep hb5; have Z5 := Z4.keep hb5; have B5 := B4.trans (hb5.mono B4.size); have hS5 := (show (∀ o, w5.cell? ⟨w.heap.size, o, none⟩ = (#[.int .i64 q, .slice p xss.length c] : Array Value)[o]?) ∧ (∀ o, w5.cell? ⟨w.heap.size + 1, o, none⟩ = (#[.int .i64 q, .slice p' yss.length c'] : Array Value)[o]?) from ⟨X5.at.1, Y5.at.1⟩); have zl := Z4.lt; have za := Z5.at.1; have zb := Z5.at.2; have HSO : Hid (∀ W, Off [w.heap.size + 1 + 1] w5 W → (∀ o, W.cell? ⟨w.heap.size, o, none⟩ = (#[.int .i64 q, .slice p xss.length c] : Array Value)[o]?) ∧ (∀ o, W.cell? ⟨w.heap.size + 1, o, none⟩ = (#[.int .i64 q, .slice p' yss.length c'] : Array Value)[o]?)) := fun W O => ⟨(X5.off O (by simp; omega)).at.1, (Y5.off O (by simp)).at.1⟩; dsimp only))
    have hf' : ∀ y ∈ b0', w.heap.size + 1 + 1 < y := fun y hy => by have := hf y hy; omega
    dsimp only at hM
    have OO : ∀ W, Off [w.heap.size + 1 + 1] w5 W → (∃ u b0, Ending.returned (.agg #[.int .i64 0, .int .i64 q, .slice pp oss.length cc]) = .returned u ∧ OwMirrorResult W u ⟨0, ⟨q, oss⟩⟩ b0 ∧ (∀ y ∈ b0, w.heap.size ≤ y) ∧ Below w.heap.size w W) := fun W OO => ⟨_, b0', rfl, ⟨pp, cc, rfl, hM.off OO (fun x hx hm => by have := hf' x hx; simp at hm; omega)⟩, fun y hy => by have := hf' y hy; omega, B5.trans (OO.toBelow B5.size (by simp; omega))⟩
    clear hM hf hf' hb5 X5 Y5 Z5 B5 X4 Y4 Z4 B4 X3 Y3 Z3 B3 X2 Y2 Z2 B2 X0 Y0 Z0 B0 hS0 hS2 hS3 hS4 hS5
    generalize oss.length = n at *
    go_wp2
    exact bodyPost_ret (v := .agg #[.int .i64 0, .int .i64 q, .slice pp n cc]) (by simp [results, Try.results33, go_sem, za]) rfl (OO _ ((((Off.refl _ _).setCell _ _ (by simp)).setCell _ _ (by simp)).setCell _ _ (by simp)))
  · have HN : Hid (joinR (fun x y => x + y) ⟨q, xss⟩ ⟨q', yss⟩ = badR (bothC q xss q' yss)) := if_neg h0
    rw [HN.out]
    have hne : (bothC q xss q' yss == 0) = false := by simpa using h0
    clear h0 HN
    generalize bothC q xss q' yss = r at *
    go_enter Try.func33, Try.ntmps33
    go_wp2_with fail
    refine (K _ (HV.out _ B0) (HV'.out _ B0)).mono ?_
    rintro e w1 ⟨rfl, hb1⟩
    replace Z0 := Z0.keep hb1
    replace B0 : Below w.heap.size w w1 := B0.trans (hb1.mono B0.size)
    clear hb1 X0 Y0 K
    have za := Z0.at.1
    have zb := Z0.at.2
    have OO : ∀ W, Off [w.heap.size + 1 + 1] w1 W → (∃ u b0, Ending.returned (.agg #[.int .i64 r, .int .i64 0, .slice none 0 0]) = .returned u ∧ OwMirrorResult W u (badR r) b0 ∧ (∀ y ∈ b0, w.heap.size ≤ y) ∧ Below w.heap.size w W) := fun W OO => ⟨_, [], rfl, ⟨none, 0, rfl, Mat.nil _⟩, by simp, B0.trans (OO.toBelow B0.size (by simp; omega))⟩
    clear B0 Z0
    go_wp2
    exact bodyPost_ret (v := .agg #[.int .i64 r, .int .i64 0, .slice none 0 0]) (by simp [results, Try.results33, go_sem, za]) rfl (OO _ ((((Off.refl _ _).setCell _ _ (by simp)).setCell _ _ (by simp)).setCell _ _ (by simp)))
end Go.Proofs.Ytepobckhfodngai
