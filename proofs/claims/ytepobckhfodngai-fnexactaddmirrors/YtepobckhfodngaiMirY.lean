/-
  Contracts of chapter 3's model: sums and differences of mirrors.
-/
import Derived.Test.YtepobckhfodngaiMirM
import Derived.Test.YtepobckhfodngaiMirW
namespace Go.Proofs.Ytepobckhfodngai
open Go.ChangeShapes Go.WideShapes Go.ChangeAt Go.RowKit
set_option linter.unusedVariables false

/-- the code of two mirrors -/
def bothC (q : Int) (xss : List (List Int)) (q' : Int) (yss : List (List Int)) : Int := if mirC q xss = 0 then (if mirC q' yss = 0 then (if q = q' then 0 else 1) else mirC q' yss) else mirC q xss
theorem bothC_a {q : Int} {xss : List (List Int)} {q' : Int} {yss : List (List Int)} (h : mirC q xss ≠ 0) : bothC q xss q' yss = mirC q xss := if_neg h
theorem bothC_b {q : Int} {xss : List (List Int)} {q' : Int} {yss : List (List Int)} (h : mirC q xss = 0) (k : mirC q' yss ≠ 0) : bothC q xss q' yss = mirC q' yss := by unfold bothC; rw [if_pos h, if_neg k]
theorem bothC_q {q : Int} {xss : List (List Int)} {q' : Int} {yss : List (List Int)} (h : mirC q xss = 0) (k : mirC q' yss = 0) (e : ¬ q = q') : bothC q xss q' yss = 1 := by unfold bothC; rw [if_pos h, if_pos k, if_neg e]
theorem bothC_ok {q : Int} {xss : List (List Int)} {q' : Int} {yss : List (List Int)} (h : mirC q xss = 0) (k : mirC q' yss = 0) (e : q = q') : bothC q xss q' yss = 0 := by unfold bothC; rw [if_pos h, if_pos k, if_pos e]
theorem bothC_zero {q : Int} {xss : List (List Int)} {q' : Int} {yss : List (List Int)} (h : bothC q xss q' yss = 0) : mirC q xss = 0 ∧ mirC q' yss = 0 ∧ q = q' := by
  unfold bothC at h
  split at h
  · split at h
    · split at h
      · exact ⟨‹_›, ‹_›, ‹_›⟩
      · cases h
    · contradiction
  · contradiction
/-- what comes of two mirrors, part by part -/
def joinR (f : Int → Int → Int) (x y : MMirror) : MMirrorResult := if bothC x.xQ x.xViews y.xQ y.xViews = 0 then ⟨0, ⟨x.xQ, opRows f x.xQ x.xViews y.xViews⟩⟩ else badR (bothC x.xQ x.xViews y.xQ y.xViews)
theorem sl_opRows (f : Int → Int → Int) (q : Int) (xss yss : List (List Int)) : sl (opRows f q xss yss) = 16 := by simp [opRows, List.range_succ, sl]
theorem joinR_cnt (f : Int → Int → Int) (x y : MMirror) : cntMirrorResult (joinR f x y) ≤ 268435456 := by
  unfold joinR
  split
  · show sl (opRows ..) ≤ _
    rw [sl_opRows]; omega
  · show sl [] ≤ _; simp [sl]
theorem mixRows_op (q : Int) (xss yss : List (List Int)) (t : Int) : mixRows q xss yss t = opRows (fun x y => x + t * y) q xss yss := rfl
theorem mixRows_add (q : Int) (xss yss : List (List Int)) : mixRows q xss yss 1 = opRows (fun x y => x + y) q xss yss := by
  rw [mixRows_op]; congr 1; funext x y; omega
theorem mixRows_sub (q : Int) (xss yss : List (List Int)) : mixRows q xss yss (-1) = opRows (fun x y => x - y) q xss yss := by
  rw [mixRows_op]; congr 1; funext x y; omega
theorem pt_bd {q : Int} {xss : List (List Int)} (h : mirC q xss = 0) : ∀ i j, 0 ≤ pt xss i j ∧ pt xss i j < q := (mirC_zero h).2.2.2.1
theorem Four.of {w : World} {b : Nat} {q : Int} {v : Value} {xss : List (List Int)} (hb : Blk w b 34 #[.int .i64 q, v]) (hv : ReadsM w v xss) (hc : mirC q xss = 0) : Four w b q xss := by
  obtain ⟨hq, h4, hr, hx, _⟩ := mirC_zero hc
  exact ⟨v, hb, hv, h4, hr, fun i j => ⟨(hx i j).1, by have := (hx i j).2; show pt xss i j < _; unfold pt; rcases hq with h | h <;> omega⟩⟩
set_option maxHeartbeats 2000000 in
theorem spec_l3Both (a b : Nat) (q q' : Int) (v v' : Value) (xss yss : List (List Int)) (w : World) (ha : Blk w a 34 #[.int .i64 q, v]) (hv : ReadsM w v xss) (hb : Blk w b 34 #[.int .i64 q', v']) (hv' : ReadsM w v' yss) :
    Calls Try.prog 62 #[.pointer (some ⟨a, 0, none⟩), .pointer (some ⟨b, 0, none⟩)] w fun e w' => e = .returned (.int .i64 (bothC q xss q' yss)) ∧ Below w.heap.size w w' := by
  have HA : Hid (ReadsM w v xss) := hv
  have HB : Hid (ReadsM w v' yss) := hv'
  have K := fun w h1 h2 => spec_l3Fault a q v xss w h1 h2
  have K' := fun w h1 h2 => spec_l3Fault b q' v' yss w h1 h2
  clear hv hv'
  by_cases h0 : mirC q xss = 0
  · rw [h0] at K
    by_cases h1 : mirC q' yss = 0
    · rw [h1] at K'
      by_cases e : q = q'
      · have HN : Hid (bothC q xss q' yss = 0) := bothC_ok h0 h1 e
        have hne : (q != q') = false := by simpa using e
        clear h0 h1 e
        go_enter Try.func62, Try.ntmps62
        go_wp2_with fail
        refine (K _ ha HA.out).mono ?_
        rintro e w1 ⟨rfl, hb1⟩
        go_wp2_with fail
        refine (K' _ (hb.keep hb1) (HB.out.below hb1)).mono ?_
        rintro e w2 ⟨rfl, hb2⟩
        have B2 := hb1.trans (hb2.mono hb1.size)
        have hS : (∀ o, w2.cell? ⟨a, o, none⟩ = (#[.int .i64 q, v] : Array Value)[o]?) ∧ (∀ o, w2.cell? ⟨b, o, none⟩ = (#[.int .i64 q', v'] : Array Value)[o]?) := ⟨(ha.keep B2).at.1, (hb.keep B2).at.1⟩
        go_wp2_with fail
        go_region_held3 (fun V => (∀ o, V.cell? ⟨a, o, none⟩ = (#[.int .i64 q, v] : Array Value)[o]?) ∧ (∀ o, V.cell? ⟨b, o, none⟩ = (#[.int .i64 q', v'] : Array Value)[o]?)) (exact hS) (fail)
        go_wp2
        go_ret
        exact ⟨by rw [HN.out]; rfl, B2.drew⟩
      · have HN : Hid (bothC q xss q' yss = 1) := bothC_q h0 h1 e
        have hne : (q != q') = true := by simpa using e
        clear h0 h1 e
        go_enter Try.func62, Try.ntmps62
        go_wp2_with fail
        refine (K _ ha HA.out).mono ?_
        rintro e w1 ⟨rfl, hb1⟩
        go_wp2_with fail
        refine (K' _ (hb.keep hb1) (HB.out.below hb1)).mono ?_
        rintro e w2 ⟨rfl, hb2⟩
        have B2 := hb1.trans (hb2.mono hb1.size)
        have hS : (∀ o, w2.cell? ⟨a, o, none⟩ = (#[.int .i64 q, v] : Array Value)[o]?) ∧ (∀ o, w2.cell? ⟨b, o, none⟩ = (#[.int .i64 q', v'] : Array Value)[o]?) := ⟨(ha.keep B2).at.1, (hb.keep B2).at.1⟩
        go_wp2_with fail
        go_region_held3 (fun V => (∀ o, V.cell? ⟨a, o, none⟩ = (#[.int .i64 q, v] : Array Value)[o]?) ∧ (∀ o, V.cell? ⟨b, o, none⟩ = (#[.int .i64 q', v'] : Array Value)[o]?)) (exact hS) (fail)
        go_wp2
        go_ret
        exact ⟨by rw [HN.out]; rfl, B2.drew⟩
    · have HN : Hid (bothC q xss q' yss = mirC q' yss) := bothC_b h0 h1
      have hne : (mirC q' yss == 0) = false := by simpa using h1
      clear h0 h1
      generalize mirC q' yss = r at *
      go_enter Try.func62, Try.ntmps62
      go_wp2_with fail
      refine (K _ ha HA.out).mono ?_
      rintro e w1 ⟨rfl, hb1⟩
      go_wp2_with fail
      refine (K' _ (hb.keep hb1) (HB.out.below hb1)).mono ?_
      rintro e w2 ⟨rfl, hb2⟩
      have B2 := hb1.trans (hb2.mono hb1.size)
      go_wp2
      go_ret
      exact ⟨by rw [HN.out]; rfl, B2⟩
  · have HN : Hid (bothC q xss q' yss = mirC q xss) := bothC_a h0
    have hne : (mirC q xss == 0) = false := by simpa using h0
    clear h0
    generalize mirC q xss = r at *
    go_enter Try.func62, Try.ntmps62
    go_wp2_with fail
    refine (K _ ha HA.out).mono ?_
    rintro e w1 ⟨rfl, hb1⟩
    go_wp2
    go_ret
    exact ⟨by rw [HN.out]; rfl, hb1⟩
set_option maxHeartbeats 4000000 in
theorem spec_AddMirrors (v v' : Value) (x y : MMirror) (w : World) (hv : RdMirror w v x) (hv' : RdMirror w v' y) :
    Calls Try.prog 32 #[v, v'] w fun e w' => ∃ u b0, e = .returned u ∧ OwMirrorResult w' u (joinR (fun x y => x + y) x y) b0 ∧ (∀ y ∈ b0, w.heap.size ≤ y) ∧ Below w.heap.size w w' := by
  obtain ⟨p, c, rfl, hv⟩ := hv
  obtain ⟨p', c', rfl, hv'⟩ := hv'
  obtain ⟨q, xss⟩ := x
  obtain ⟨q', yss⟩ := y
  dsimp only at hv hv' ⊢
  have B0 : Below w.heap.size w (((w.alloc (.cells #[.int .i64 q, .slice p xss.length c] 34)).alloc (.cells #[.int .i64 q', .slice p' yss.length c'] 34)).alloc (.cells #[.int .i64 0, .int .i64 0, .slice none 0 0] 40)) := (by repeat (first | exact Below.refl _ _ | refine Below.drew ?_ | refine below_drewN ?_ _ | refine Below.setCell ?_ (by first | omega | (simp; done) | (simp; omega)) _ | refine Below.alloc ?_ (by first | omega | (simp; done) | (simp; omega)) _))
  have X0 : Blk (((w.alloc (.cells #[.int .i64 q, .slice p xss.length c] 34)).alloc (.cells #[.int .i64 q', .slice p' yss.length c'] 34)).alloc (.cells #[.int .i64 0, .int .i64 0, .slice none 0 0] 40)) w.heap.size 34 #[.int .i64 q, .slice p xss.length c] := ((Blk.new w _ _).alloc _).alloc _
  have Y0 : Blk (((w.alloc (.cells #[.int .i64 q, .slice p xss.length c] 34)).alloc (.cells #[.int .i64 q', .slice p' yss.length c'] 34)).alloc (.cells #[.int .i64 0, .int .i64 0, .slice none 0 0] 40)) (w.heap.size + 1) 34 #[.int .i64 q', .slice p' yss.length c'] := (by simpa using Blk.new (w.alloc (.cells #[.int .i64 q, .slice p xss.length c] 34)) 34 #[.int .i64 q', .slice p' yss.length c'] : Blk ((w.alloc (.cells #[.int .i64 q, .slice p xss.length c] 34)).alloc (.cells #[.int .i64 q', .slice p' yss.length c'] 34)) (w.heap.size + 1) 34 #[.int .i64 q', .slice p' yss.length c']).alloc _
  have Z0 : Blk (((w.alloc (.cells #[.int .i64 q, .slice p xss.length c] 34)).alloc (.cells #[.int .i64 q', .slice p' yss.length c'] 34)).alloc (.cells #[.int .i64 0, .int .i64 0, .slice none 0 0] 40)) (w.heap.size + 1 + 1) 40 #[.int .i64 0, .int .i64 0, .slice none 0 0] := by simpa using Blk.new ((w.alloc (.cells #[.int .i64 q, .slice p xss.length c] 34)).alloc (.cells #[.int .i64 q', .slice p' yss.length c'] 34)) 40 #[.int .i64 0, .int .i64 0, .slice none 0 0]
  have K := fun w1 h1 h2 h3 h4 => spec_l3Both (w.heap.size) (w.heap.size + 1) q q' (.slice p xss.length c) (.slice p' yss.length c') xss yss w1 h1 h2 h3 h4
  have HA : Hid (ReadsM w (.slice p xss.length c) xss) := hv
  have HB : Hid (ReadsM w (.slice p' yss.length c') yss) := hv'
  clear hv hv'
  by_cases h0 : bothC q xss q' yss = 0
  · obtain ⟨ha, hb, rfl⟩ := bothC_zero h0
    have HN : Hid (joinR (fun x y => x + y) ⟨q, xss⟩ ⟨q, yss⟩ = ⟨0, ⟨q, mixRows q xss yss (1)⟩⟩) := by show _ = _; rw [mixRows_add]; exact if_pos h0
    have HM : Hid (∀ W, Blk W w.heap.size 34 #[.int .i64 q, .slice p xss.length c] → Blk W (w.heap.size + 1) 34 #[.int .i64 q, .slice p' yss.length c'] → Below w.heap.size w W → Four W w.heap.size q xss ∧ Four W (w.heap.size + 1) q yss) := fun W h1 h2 B => ⟨Four.of h1 (HA.out.below B) ha, Four.of h2 (HB.out.below B) hb⟩
    have KM := fun w1 h1 h2 => spec_l3Mix (w.heap.size) (w.heap.size + 1) q q (1) xss yss w1 h1 h2 (mirC_zero ha).1 (by omega) (by omega)
    rw [h0] at K
    rw [HN.out]
    clear h0 ha hb HN
    go_enter Try.func32, Try.ntmps32
    go_wp2_with fail
    refine (K _ X0 (HA.out.below B0) Y0 (HB.out.below B0)).mono ?_
    rintro e w1 ⟨rfl, hb1⟩
    replace X0 := X0.keep hb1
    replace Y0 := Y0.keep hb1
    replace Z0 := Z0.keep hb1
    replace B0 : Below w.heap.size w w1 := B0.trans (hb1.mono B0.size)
    clear hb1
    go_wp2_with fail
    refine (KM _ (HM.out _ X0 Y0 B0).1 (HM.out _ X0 Y0 B0).2).mono ?_
    rintro e w2 ⟨u, b0, rfl, hT, hf, hb2⟩
    obtain ⟨pp, cc, rfl, hM⟩ := hT
    have Z2 := Z0.keep hb2
    have zl := Z0.lt
    have B2 := B0.trans (hb2.mono B0.size)
    have hf' : ∀ y ∈ b0, w.heap.size + 1 + 1 < y := fun y hy => by have := hf y hy; omega
    have za := Z2.at.1
    have zb := Z2.at.2
    dsimp only at hM ⊢
    have OO : ∀ W, Off [w.heap.size + 1 + 1] w2 W → (∃ u b0, Ending.returned (.agg #[.int .i64 0, .int .i64 q, .slice pp (mixRows q xss yss (1)).length cc]) = .returned u ∧ OwMirrorResult W u ⟨0, ⟨q, mixRows q xss yss (1)⟩⟩ b0 ∧ (∀ y ∈ b0, w.heap.size ≤ y) ∧ Below w.heap.size w W) := fun W OO => ⟨_, b0, rfl, ⟨pp, cc, rfl, hM.off OO (fun x hx hm => by have := hf' x hx; simp at hm; omega)⟩, fun y hy => by have := hf' y hy; omega, B2.trans (OO.toBelow B2.size (by simp; omega))⟩
    clear X0 Y0 Z0 B0 KM K hM hf hf' hb2
    generalize (mixRows q xss yss (1)).length = n at *
    go_wp2
    exact bodyPost_ret (v := .agg #[.int .i64 0, .int .i64 q, .slice pp n cc]) (by simp [results, Try.results32, go_sem, za]) rfl (OO _ ((((Off.refl _ _).setCell _ _ (by simp)).setCell _ _ (by simp)).setCell _ _ (by simp)))
  · have HN : Hid (joinR (fun x y => x + y) ⟨q, xss⟩ ⟨q', yss⟩ = badR (bothC q xss q' yss)) := if_neg h0
    rw [HN.out]
    have hne : (bothC q xss q' yss == 0) = false := by simpa using h0
    clear h0 HN
    generalize bothC q xss q' yss = r at *
    go_enter Try.func32, Try.ntmps32
    go_wp2_with fail
    refine (K _ X0 (HA.out.below B0) Y0 (HB.out.below B0)).mono ?_
    rintro e w1 ⟨rfl, hb1⟩
    replace Z0 := Z0.keep hb1
    replace B0 : Below w.heap.size w w1 := B0.trans (hb1.mono B0.size)
    clear hb1 X0 Y0 K
    go_wp2_with fail
    refine (spec_l3Bad _ _).mono ?_
    rintro e w2 ⟨rfl, hb2⟩
    replace Z0 := Z0.keep hb2
    replace B0 : Below w.heap.size w w2 := B0.trans (hb2.mono B0.size)
    clear hb2
    have za := Z0.at.1
    have zb := Z0.at.2
    have OO : ∀ W, Off [w.heap.size + 1 + 1] w2 W → (∃ u b0, Ending.returned (.agg #[.int .i64 r, .int .i64 0, .slice none 0 0]) = .returned u ∧ OwMirrorResult W u (badR r) b0 ∧ (∀ y ∈ b0, w.heap.size ≤ y) ∧ Below w.heap.size w W) := fun W OO => ⟨_, [], rfl, OwMirrorResult.bad W r, by simp, B0.trans (OO.toBelow B0.size (by simp; omega))⟩
    clear B0 Z0
    go_wp2
    exact bodyPost_ret (v := .agg #[.int .i64 r, .int .i64 0, .slice none 0 0]) (by simp [results, Try.results32, go_sem, za]) rfl (OO _ ((((Off.refl _ _).setCell _ _ (by simp)).setCell _ _ (by simp)).setCell _ _ (by simp)))
end Go.Proofs.Ytepobckhfodngai
