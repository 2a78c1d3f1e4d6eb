/-
  Contracts of chapter 3's model: multiples of mirrors; mirrors of what all know.
-/
import Derived.Test.YtepobckhfodngaaMirY
import Derived.Deep.OwnRows
namespace Go.Proofs.Ytepobckhfodngaa
open Go.ChangeShapes Go.WideShapes Go.ChangeAt Go.RowKit
set_option linter.unusedVariables false

def scaleR (x : MMirror) (k : Int) : MMirrorResult := if mirC x.xQ x.xViews = 0 then (if 0 ≤ k ∧ k < x.xQ then ⟨0, ⟨x.xQ, opRows (fun x _ => x * k) x.xQ x.xViews x.xViews⟩⟩ else badR 3) else badR (mirC x.xQ x.xViews)
theorem scaleR_cnt (x : MMirror) (k : Int) : cntMirrorResult (scaleR x k) ≤ 268435456 := by
  unfold scaleR
  split
  · split
    · show sl (opRows (fun x _ => x * k) x.xQ x.xViews x.xViews) ≤ _
      rw [sl_opRows]; omega
    · show sl [] ≤ _; simp [sl]
  · show sl [] ≤ _; simp [sl]
theorem scaleR_fault {q : Int} {xss : List (List Int)} (k : Int) (h : mirC q xss ≠ 0) : scaleR ⟨q, xss⟩ k = badR (mirC q xss) := if_neg h
theorem scaleR_k {q : Int} {xss : List (List Int)} {k : Int} (h : mirC q xss = 0) (hk : ¬ (0 ≤ k ∧ k < q)) : scaleR ⟨q, xss⟩ k = badR 3 := by unfold scaleR; rw [if_pos h, if_neg hk]
theorem scaleR_ok {q : Int} {xss : List (List Int)} {k : Int} (h : mirC q xss = 0) (hk : 0 ≤ k ∧ k < q) : scaleR ⟨q, xss⟩ k = ⟨0, ⟨q, opRows (fun x _ => x * k) q xss xss⟩⟩ := by unfold scaleR; rw [if_pos h, if_pos hk]
theorem mirRows_zero : mirRows [0, 0, 0, 0] = zero4 := rfl
theorem pt_zero4 (i j : Nat) : pt zero4 i j = 0 := by
  unfold pt
  by_cases hi : i < 4
  · obtain rfl | rfl | rfl | rfl : i = 0 ∨ i = 1 ∨ i = 2 ∨ i = 3 := by omega
    all_goals
      show ([0, 0, 0, 0] : List Int).getD j 0 = 0
      by_cases hj : j < 4
      · obtain rfl | rfl | rfl | rfl : j = 0 ∨ j = 1 ∨ j = 2 ∨ j = 3 := by omega
        all_goals rfl
      · rw [List.getD_eq_getElem?_getD, List.getElem?_eq_none (by simp; omega)]; rfl
  · have : zero4.getD i [] = [] := by rw [List.getD_eq_getElem?_getD, List.getElem?_eq_none (by simp [zero4]; omega)]; rfl
    rw [this]; rfl
theorem mixRows_scale (q k : Int) (xss : List (List Int)) : mixRows q zero4 xss k = opRows (fun x _ => x * k) q xss xss := by
  unfold mixRows mixRow opRows
  refine List.map_congr_left fun i _ => List.map_congr_left fun j _ => ?_
  unfold mixAt
  rw [pt_zero4, Int.zero_add, Int.mul_comm]
theorem fieldM_1 (x y : Value) (w : World) : (Instr.field 59 (.agg #[x, y]) 1).run Try.prog w = .ok y w := by kernel_rfl
theorem Four.zero {w : World} {b : Nat} {q : Int} {p : Option Addr} {c : Nat} {bs : List Nat} (hb : Blk w b 59 #[.int .i64 q, .slice p 4 c]) (hM : Mat w (.slice p 4 c) zero4 bs) : Four w b q zero4 :=
  ⟨_, hb, hM.reads, rfl, (Sq.of 0 0 0 0 0 0 0 0 0 0 0 0 0 0 0 0).2, fun i j => by rw [pt_zero4]; omega⟩
set_option maxHeartbeats 4000000 in
set_option maxRecDepth 100000 in
theorem spec_l3Scale (b : Nat) (q k : Int) (v : Value) (xss : List (List Int)) (w : World) (hb : Blk w b 59 #[.int .i64 q, v]) (hv : ReadsM w v xss) (hc : mirC q xss = 0) (hk : 0 ≤ k) (hk' : k < 256) :
    Calls Try.prog 120 #[.pointer (some ⟨b, 0, none⟩), .int .i64 k] w fun e w' => ∃ u b0, e = .returned u ∧ OwMirror w' u ⟨q, opRows (fun x _ => x * k) q xss xss⟩ b0 ∧ (∀ y ∈ b0, w.heap.size ≤ y) ∧ Below w.heap.size w w' := by
  have hmk : ∀ w, (Instr.makeSlice 33 (.int .i64 4) (.int .i64 4)).run Try.prog w = .ok (.slice (some ⟨w.heap.size, 0, none⟩) 4 4) (w.alloc (.cells #[.int .i64 0, .int .i64 0, .int .i64 0, .int .i64 0] 2)) := fun _ => by kernel_rfl
  have fd := fieldM_1
  have HQ : Hid (isQ q) := (mirC_zero hc).1
  have HF : Hid (∀ W, Below w.heap.size w W → Four W b q xss) := fun W B => Four.of (hb.keep B) (hv.below B) hc
  have KM := fun a w h1 h2 => spec_l3Mix a b q q k zero4 xss w h1 h2 HQ.out (by omega) (by omega)
  rw [mixRows_scale] at KM
  have KO := fun v w h => spec_l3Of q v [0, 0, 0, 0] w h rfl
  rw [mirRows_zero] at KO
  have HL : Hid ((opRows (fun x _ => x * k) q xss xss).length = 4) := (opRows_sq ..).1
  generalize opRows (fun x _ => x * k) q xss xss = oss at *
  have Y0 := Blk.new w 59 #[.int .i64 0, .slice none 0 0]
  have B0 : Below w.heap.size w (w.alloc (.cells #[.int .i64 0, .slice none 0 0] 59)) := (by repeat (first | exact Below.refl _ _ | refine Below.drew ?_ | refine below_drewN ?_ _ | refine Below.setCell ?_ (by first | omega | (simp; done) | (simp; omega)) _ | refine Below.alloc ?_ (by first | omega | (simp; done) | (simp; omega)) _))
  have S0 := (hb.keep B0).at.1
  have SB : Hid (∀ W, Below w.heap.size w W → ∀ o, W.cell? ⟨b, o, none⟩ = (#[.int .i64 q, v] : Array Value)[o]?) := fun W B => (hb.keep B).at.1
  clear hb hv hc
  go_enter Try.func120, Try.ntmps120
  go_wp2_with fail
  have B0d := B0.drew
  have Y0d := Y0.drew
  have hR : ∀ W : World, Reads (W.alloc (.cells #[.int .i64 0, .int .i64 0, .int .i64 0, .int .i64 0] 2)) .i64 (.slice (some ⟨W.heap.size, 0, none⟩) 4 4) [0, 0, 0, 0] := fun W => Own.reads (Own.made W 2 1 #[.int .i64 0, .int .i64 0, .int .i64 0, .int .i64 0] 4 (by unfold maxLen; omega) rfl)
  have hR1 : Reads ((w.alloc (.cells #[.int .i64 0, .slice none 0 0] 59)).drew.alloc (.cells #[.int .i64 0, .int .i64 0, .int .i64 0, .int .i64 0] 2)) .i64 (.slice (some ⟨w.heap.size + 1, 0, none⟩) 4 4) [0, 0, 0, 0] := by simpa using hR (w.alloc (.cells #[.int .i64 0, .slice none 0 0] 59)).drew
  clear hR Y0 B0 S0
  go_region_held3 (fun V => ∀ o, V.cell? ⟨b, o, none⟩ = (#[.int .i64 q, v] : Array Value)[o]?) (first | (have _k := tk3; first | exact SB.out _ B3 | exact SB.out _ ((B3.setCell (by simp) _).setCell (by simp) _)) | (have _k := tk2; first | exact SB.out _ B2 | exact SB.out _ (B2.alloc B2.size _)) | exact SB.out _ B0d | exact SB.out _ (B0d.alloc B0d.size _)) (first | (go_at_call 104; refine (KO _ _ (by exact hR1)).mono ?_; rintro e w2 ⟨u, bo, rfl, hT, hf2, hb2⟩; obtain ⟨p2, c2, rfl, hM2⟩ := hT; have Y2 := (Y0d.alloc _).keep hb2; have B2 := (B0d.alloc B0d.size _).trans (hb2.mono (B0d.alloc B0d.size _).size); have tk2 : Hid True := trivial; have hM2' : Mat w2 (.slice p2 4 c2) zero4 bo := hM2; clear hM2 hb2; dsimp only [zero4, List.length_cons, List.length_nil]) | (go_at_call 124; refine (KM _ _ (Four.zero (Blk.new _ _ _) (hM2'.alloc _)) (HF.out _ (B2.alloc B2.size _))).mono ?_; rintro e w3 ⟨u, b3, rfl, hT, hf3, hb3⟩; obtain ⟨p3, c3, rfl, hM3⟩ := hT; have Y3 := (Y2.alloc _).keep hb3; have B3 := (B2.alloc B2.size _).trans (hb3.mono (B2.alloc B2.size _).size); have y2l := Y2.lt; have ya := Y3.at.1; have yb := Y3.at.2; have tk3 : Hid True := trivial))
  have hf' : ∀ y ∈ b3, w.heap.size < y := fun y hy => by have := hf3 y hy; simp at this; omega
  have OO : ∀ W, Off [w.heap.size] w3 W → (∃ u b0, Ending.returned (.agg #[.int .i64 q, .slice p3 oss.length c3]) = .returned u ∧ OwMirror W u ⟨q, oss⟩ b0 ∧ (∀ y ∈ b0, w.heap.size ≤ y) ∧ Below w.heap.size w W) := fun W OO => ⟨_, b3, rfl, ⟨p3, c3, rfl, hM3.off OO (fun x hx hm => by have := hf' x hx; simp at hm; omega)⟩, fun y hy => by have := hf' y hy; omega, B3.trans (OO.toBelow B3.size (by simp))⟩
  clear hM3 hf3 hf' hb3 Y2 B2 hM2' hf2 Y0d B0d
  go_wp2
  exact bodyPost_ret (v := .agg #[.int .i64 q, .slice p3 oss.length c3]) (by simp [results, Try.results120, go_sem, ya]) rfl (OO _ (((Off.refl _ _).setCell _ _ (by simp)).setCell _ _ (by simp)))
set_option maxHeartbeats 4000000 in
theorem spec_ScaleMirror (v : Value) (x : MMirror) (k : Int) (w : World) (hv : RdMirror w v x) :
    Calls Try.prog 56 #[v, .int .i64 k] w fun e w' => ∃ u b0, e = .returned u ∧ OwMirrorResult w' u (scaleR x k) b0 ∧ (∀ y ∈ b0, w.heap.size ≤ y) ∧ Below w.heap.size w w' := by
  obtain ⟨p, c, rfl, hv⟩ := hv
  obtain ⟨q, xss⟩ := x
  dsimp only at hv ⊢
  have B0 : Below w.heap.size w ((w.alloc (.cells #[.int .i64 q, .slice p xss.length c] 59)).alloc (.cells #[.int .i64 0, .int .i64 0, .slice none 0 0] 61)) := (by repeat (first | exact Below.refl _ _ | refine Below.drew ?_ | refine below_drewN ?_ _ | refine Below.setCell ?_ (by first | omega | (simp; done) | (simp; omega)) _ | refine Below.alloc ?_ (by first | omega | (simp; done) | (simp; omega)) _))
  have X0 : Blk ((w.alloc (.cells #[.int .i64 q, .slice p xss.length c] 59)).alloc (.cells #[.int .i64 0, .int .i64 0, .slice none 0 0] 61)) w.heap.size 59 #[.int .i64 q, .slice p xss.length c] := (Blk.new w _ _).alloc _
  have Z0 : Blk ((w.alloc (.cells #[.int .i64 q, .slice p xss.length c] 59)).alloc (.cells #[.int .i64 0, .int .i64 0, .slice none 0 0] 61)) (w.heap.size + 1) 61 #[.int .i64 0, .int .i64 0, .slice none 0 0] := by simpa using Blk.new (w.alloc (.cells #[.int .i64 q, .slice p xss.length c] 59)) 61 #[.int .i64 0, .int .i64 0, .slice none 0 0]
  have K := fun w1 h1 h2 => spec_l3Fault w.heap.size q (.slice p xss.length c) xss w1 h1 h2
  have HA : Hid (ReadsM w (.slice p xss.length c) xss) := hv
  have HBad : ∀ r w2, Below w.heap.size w w2 → ∀ W, Off [w.heap.size + 1] w2 W → (∃ u b0, Ending.returned (.agg #[.int .i64 r, .int .i64 0, .slice none 0 0]) = .returned u ∧ OwMirrorResult W u (badR r) b0 ∧ (∀ y ∈ b0, w.heap.size ≤ y) ∧ Below w.heap.size w W) := fun r w2 B W OO => ⟨_, [], rfl, OwMirrorResult.bad W r, by simp, B.trans (OO.toBelow B.size (by simp))⟩
  clear hv
  by_cases h0 : mirC q xss = 0
  · have hq := (mirC_zero h0).1
    have q1 : 2 ≤ q := by rcases hq with h | h <;> omega
    have q2 : q ≤ 256 := by rcases hq with h | h <;> omega
    by_cases hk : 0 ≤ k ∧ k < q
    · have HN : Hid (scaleR ⟨q, xss⟩ k = ⟨0, ⟨q, opRows (fun x _ => x * k) q xss xss⟩⟩) := scaleR_ok h0 hk
      have KS := fun w1 h1 h2 => spec_l3Scale w.heap.size q k (.slice p xss.length c) xss w1 h1 h2 h0 hk.1 (by omega)
      rw [h0] at K
      rw [HN.out]
      clear h0 HN HBad
      generalize opRows (fun x _ => x * k) q xss xss = oss at *
      go_enter Try.func56, Try.ntmps56
      go_wp2_with fail
      refine (K _ X0 (HA.out.below B0)).mono ?_
      rintro e w1 ⟨rfl, hb1⟩
      replace X0 := X0.keep hb1
      replace Z0 := Z0.keep hb1
      replace B0 : Below w.heap.size w w1 := B0.trans (hb1.mono B0.size)
      clear hb1
      have xa := X0.at.1
      go_wp2_with fail
      refine (spec_l1Has_yes _ _ _ (by omega) (by omega) hk.1 hk.2).mono ?_
      rintro e w9 ⟨rfl, rfl⟩
      go_wp2_with fail
      refine (KS _ X0 (HA.out.below B0)).mono ?_
      rintro e w2 ⟨u, b0', rfl, hT, hf, hb2⟩
      obtain ⟨pp, cc, rfl, hM⟩ := hT
      have Z2 := Z0.keep hb2
      have zl := Z0.lt
      have B2 := B0.trans (hb2.mono B0.size)
      have hf' : ∀ y ∈ b0', w.heap.size + 1 < y := fun y hy => by have := hf y hy; omega
      have za := Z2.at.1
      have zb := Z2.at.2
      dsimp only at hM ⊢
      have OO : ∀ W, Off [w.heap.size + 1] w2 W → (∃ u b0, Ending.returned (.agg #[.int .i64 0, .int .i64 q, .slice pp oss.length cc]) = .returned u ∧ OwMirrorResult W u ⟨0, ⟨q, oss⟩⟩ b0 ∧ (∀ y ∈ b0, w.heap.size ≤ y) ∧ Below w.heap.size w W) := fun W OO => ⟨_, b0', rfl, ⟨pp, cc, rfl, hM.off OO (fun x hx hm => by have := hf' x hx; simp at hm; omega)⟩, fun y hy => by have := hf' y hy; omega, B2.trans (OO.toBelow B2.size (by simp))⟩
      clear X0 Z0 B0 KS K hM hf hf' hb2 xa
      go_wp2
      exact bodyPost_ret (v := .agg #[.int .i64 0, .int .i64 q, .slice pp oss.length cc]) (by simp [results, Try.results56, go_sem, za]) rfl (OO _ ((((Off.refl _ _).setCell _ _ (by simp)).setCell _ _ (by simp)).setCell _ _ (by simp)))
    · have HN : Hid (scaleR ⟨q, xss⟩ k = badR 3) := scaleR_k h0 hk
      rw [h0] at K
      rw [HN.out]
      clear h0 HN
      go_enter Try.func56, Try.ntmps56
      go_wp2_with fail
      refine (K _ X0 (HA.out.below B0)).mono ?_
      rintro e w1 ⟨rfl, hb1⟩
      replace X0 := X0.keep hb1
      replace Z0 := Z0.keep hb1
      replace B0 : Below w.heap.size w w1 := B0.trans (hb1.mono B0.size)
      clear hb1
      have xa := X0.at.1
      go_wp2_with fail
      refine (spec_l1Has_no _ _ _ (by omega) (by omega) (by omega)).mono ?_
      rintro e w9 ⟨rfl, rfl⟩
      go_wp2_with fail
      refine (spec_l3Bad _ _).mono ?_
      rintro e w2 ⟨rfl, hb2⟩
      replace Z0 := Z0.keep hb2
      replace B0 : Below w.heap.size w w2 := B0.trans (hb2.mono B0.size)
      clear hb2 xa
      have za := Z0.at.1
      have zb := Z0.at.2
      have OO := HBad 3 w2 B0
      clear HBad
      go_wp2
      exact bodyPost_ret (v := .agg #[.int .i64 3, .int .i64 0, .slice none 0 0]) (by simp [results, Try.results56, go_sem, za]) rfl (OO _ ((((Off.refl _ _).setCell _ _ (by simp)).setCell _ _ (by simp)).setCell _ _ (by simp)))
  · rw [scaleR_fault k h0]
    have hne : (mirC q xss == 0) = false := by simpa using h0
    clear h0
    generalize mirC q xss = r at *
    go_enter Try.func56, Try.ntmps56
    go_wp2_with fail
    refine (K _ X0 (HA.out.below B0)).mono ?_
    rintro e w1 ⟨rfl, hb1⟩
    replace Z0 := Z0.keep hb1
    replace B0 : Below w.heap.size w w1 := B0.trans (hb1.mono B0.size)
    clear hb1 X0
    go_wp2_with fail
    refine (spec_l3Bad _ _).mono ?_
    rintro e w2 ⟨rfl, hb2⟩
    replace Z0 := Z0.keep hb2
    replace B0 : Below w.heap.size w w2 := B0.trans (hb2.mono B0.size)
    clear hb2
    have za := Z0.at.1
    have zb := Z0.at.2
    have OO := HBad r w2 B0
    clear HBad
    go_wp2
    exact bodyPost_ret (v := .agg #[.int .i64 r, .int .i64 0, .slice none 0 0]) (by simp [results, Try.results56, go_sem, za]) rfl (OO _ ((((Off.refl _ _).setCell _ _ (by simp)).setCell _ _ (by simp)).setCell _ _ (by simp)))
theorem plain_ok {q v : Int} (hq : isQ q) (hv : 0 ≤ v ∧ v < q) : mirrorOfR q [v, 0, 0, 0] = ⟨0, ⟨q, mirRows [v, 0, 0, 0]⟩⟩ := by
  have : okV q [v, 0, 0, 0] = true := by
    have : 0 < q := by rcases hq with h | h <;> omega
    simp [okV, hv.1, hv.2, this]
  unfold mirrorOfR
  rw [if_pos hq, if_pos (show ([v, 0, 0, 0] : List Int).length = 4 from rfl), if_pos this]
theorem plain_v {q v : Int} (hq : isQ q) (hv : ¬ (0 ≤ v ∧ v < q)) : mirrorOfR q [v, 0, 0, 0] = badR 3 := by
  have : ¬ okV q [v, 0, 0, 0] = true := by
    intro h
    have := (okV_iff q [v, 0, 0, 0]).1 h 0 (by simp)
    exact hv (by simpa using this)
  unfold mirrorOfR
  rw [if_pos hq, if_pos (show ([v, 0, 0, 0] : List Int).length = 4 from rfl), if_neg this]
theorem plain_q {q v : Int} (hq : ¬ isQ q) : mirrorOfR q [v, 0, 0, 0] = badR 3 := by unfold mirrorOfR; rw [if_neg hq]
set_option maxHeartbeats 2000000 in
theorem spec_l3Plain (q v : Int) (w : World) :
    Calls Try.prog 122 #[.int .i64 q, .int .i64 v] w fun e w' => ∃ u b0, e = .returned u ∧ OwMirror w' u ⟨q, mirRows [v, 0, 0, 0]⟩ b0 ∧ (∀ y ∈ b0, w.heap.size ≤ y) ∧ Below w.heap.size w w' := by
  have KO := fun u w h => spec_l3Of q u [v, 0, 0, 0] w h rfl
  have Y0 := (Blk.new w 59 #[.int .i64 0, .slice none 0 0]).alloc (.cells #[.int .i64 v, .int .i64 0, .int .i64 0, .int .i64 0] 2)
  have B0 : Below w.heap.size w ((w.alloc (.cells #[.int .i64 0, .slice none 0 0] 59)).alloc (.cells #[.int .i64 v, .int .i64 0, .int .i64 0, .int .i64 0] 2)) := (by repeat (first | exact Below.refl _ _ | refine Below.drew ?_ | refine below_drewN ?_ _ | refine Below.setCell ?_ (by first | omega | (simp; done) | (simp; omega)) _ | refine Below.alloc ?_ (by first | omega | (simp; done) | (simp; omega)) _))
  have hR1 : Reads ((w.alloc (.cells #[.int .i64 0, .slice none 0 0] 59)).alloc (.cells #[.int .i64 v, .int .i64 0, .int .i64 0, .int .i64 0] 2)) .i64 (.slice (some ⟨w.heap.size + 1, 0, none⟩) 4 4) [v, 0, 0, 0] := by
    have := Own.made (w.alloc (.cells #[.int .i64 0, .slice none 0 0] 59)) 2 1 #[.int .i64 v, .int .i64 0, .int .i64 0, .int .i64 0] 4 (by unfold maxLen; omega) rfl
    simpa using Own.reads (xs := [v, 0, 0, 0]) this
  go_enter Try.func122, Try.ntmps122
  go_wp2_with fail
  refine (KO _ _ (by exact hR1)).mono ?_
  rintro e w2 ⟨u, bo, rfl, hT, hf, hb2⟩
  obtain ⟨pp, cc, rfl, hM⟩ := hT
  have Y2 := Y0.keep hb2
  have yl := Y0.lt
  have B2 := B0.trans (hb2.mono B0.size)
  have hf' : ∀ y ∈ bo, w.heap.size < y := fun y hy => by have := hf y hy; omega
  have ya := Y2.at.1
  have yb := Y2.at.2
  have OO : ∀ W, Off [w.heap.size] w2 W → (∃ u b0, Ending.returned (.agg #[.int .i64 q, .slice pp (mirRows [v, 0, 0, 0]).length cc]) = .returned u ∧ OwMirror W u ⟨q, mirRows [v, 0, 0, 0]⟩ b0 ∧ (∀ y ∈ b0, w.heap.size ≤ y) ∧ Below w.heap.size w W) := fun W OO => ⟨_, bo, rfl, ⟨pp, cc, rfl, hM.off OO (fun x hx hm => by have := hf' x hx; simp at hm; omega)⟩, fun y hy => by have := hf' y hy; omega, B2.trans (OO.toBelow B2.size (by simp))⟩
  dsimp only
  clear hM hf hf' hb2 Y0 B0 Y2
  generalize (mirRows [v, 0, 0, 0]).length = n at *
  go_wp2
  exact bodyPost_ret (v := .agg #[.int .i64 q, .slice pp n cc]) (by simp [results, Try.results122, go_sem, ya]) rfl (OO _ (((Off.refl _ _).setCell _ _ (by simp)).setCell _ _ (by simp)))
set_option maxHeartbeats 2000000 in
theorem spec_PlainMirror (q v : Int) (w : World) :
    Calls Try.prog 59 #[.int .i64 q, .int .i64 v] w fun e w' => ∃ u b0, e = .returned u ∧ OwMirrorResult w' u (mirrorOfR q [v, 0, 0, 0]) b0 ∧ (∀ y ∈ b0, w.heap.size ≤ y) ∧ Below w.heap.size w w' := by
  have Z0 := Blk.new w 61 #[.int .i64 0, .int .i64 0, .slice none 0 0]
  have B0 : Below w.heap.size w (w.alloc (.cells #[.int .i64 0, .int .i64 0, .slice none 0 0] 61)) := (by repeat (first | exact Below.refl _ _ | refine Below.drew ?_ | refine below_drewN ?_ _ | refine Below.setCell ?_ (by first | omega | (simp; done) | (simp; omega)) _ | refine Below.alloc ?_ (by first | omega | (simp; done) | (simp; omega)) _))
  have HBad : ∀ r w2, Below w.heap.size w w2 → ∀ W, Off [w.heap.size] w2 W → (∃ u b0, Ending.returned (.agg #[.int .i64 r, .int .i64 0, .slice none 0 0]) = .returned u ∧ OwMirrorResult W u (badR r) b0 ∧ (∀ y ∈ b0, w.heap.size ≤ y) ∧ Below w.heap.size w W) := fun r w2 B W OO => ⟨_, [], rfl, OwMirrorResult.bad W r, by simp, B.trans (OO.toBelow B.size (by simp))⟩
  by_cases hq : isQ q
  · have q1 : 2 ≤ q := by rcases hq with h | h <;> omega
    have q2 : q ≤ 256 := by rcases hq with h | h <;> omega
    by_cases hv : 0 ≤ v ∧ v < q
    · rw [plain_ok hq hv]
      go_enter Try.func59, Try.ntmps59
      go_wp2_with fail
      refine (spec_l1Ring_yes _ _ hq).mono ?_
      rintro e w9 ⟨rfl, rfl⟩
      go_wp2_with fail
      refine (spec_l1Has_yes _ _ _ (by omega) (by omega) hv.1 hv.2).mono ?_
      rintro e w9 ⟨rfl, rfl⟩
      go_wp2_with fail
      refine (spec_l3Plain q v _).mono ?_
      rintro e w2 ⟨u, b0', rfl, hT, hf, hb2⟩
      obtain ⟨pp, cc, rfl, hM⟩ := hT
      have Z2 := Z0.keep hb2
      have zl := Z0.lt
      have B2 := B0.trans (hb2.mono B0.size)
      have hf' : ∀ y ∈ b0', w.heap.size < y := fun y hy => by have := hf y hy; omega
      have za := Z2.at.1
      have zb := Z2.at.2
      have OO : ∀ W, Off [w.heap.size] w2 W → (∃ u b0, Ending.returned (.agg #[.int .i64 0, .int .i64 q, .slice pp (mirRows [v, 0, 0, 0]).length cc]) = .returned u ∧ OwMirrorResult W u ⟨0, ⟨q, mirRows [v, 0, 0, 0]⟩⟩ b0 ∧ (∀ y ∈ b0, w.heap.size ≤ y) ∧ Below w.heap.size w W) := fun W OO => ⟨_, b0', rfl, ⟨pp, cc, rfl, hM.off OO (fun x hx hm => by have := hf' x hx; simp at hm; omega)⟩, fun y hy => by have := hf' y hy; omega, B2.trans (OO.toBelow B2.size (by simp))⟩
      dsimp only
      clear Z0 B0 hM hf hf' hb2 HBad
      generalize (mirRows [v, 0, 0, 0]).length = n at *
      go_wp2
      exact bodyPost_ret (v := .agg #[.int .i64 0, .int .i64 q, .slice pp n cc]) (by simp [results, Try.results59, go_sem, za]) rfl (OO _ ((((Off.refl _ _).setCell _ _ (by simp)).setCell _ _ (by simp)).setCell _ _ (by simp)))
    · rw [plain_v hq hv]
      go_enter Try.func59, Try.ntmps59
      go_wp2_with fail
      refine (spec_l1Ring_yes _ _ hq).mono ?_
      rintro e w9 ⟨rfl, rfl⟩
      go_wp2_with fail
      refine (spec_l1Has_no _ _ _ (by omega) (by omega) (by omega)).mono ?_
      rintro e w9 ⟨rfl, rfl⟩
      go_wp2_with fail
      refine (spec_l3Bad _ _).mono ?_
      rintro e w2 ⟨rfl, hb2⟩
      replace Z0 := Z0.keep hb2
      replace B0 : Below w.heap.size w w2 := B0.trans (hb2.mono B0.size)
      have za := Z0.at.1
      have zb := Z0.at.2
      have OO := HBad 3 w2 B0
      clear HBad
      go_wp2
      exact bodyPost_ret (v := .agg #[.int .i64 3, .int .i64 0, .slice none 0 0]) (by simp [results, Try.results59, go_sem, za]) rfl (OO _ ((((Off.refl _ _).setCell _ _ (by simp)).setCell _ _ (by simp)).setCell _ _ (by simp)))
  · rw [plain_q hq]
    go_enter Try.func59, Try.ntmps59
    go_wp2_with fail
    refine (spec_l1Ring_no _ _ hq).mono ?_
    rintro e w9 ⟨rfl, rfl⟩
    go_wp2_with fail
    refine (spec_l3Bad _ _).mono ?_
    rintro e w2 ⟨rfl, hb2⟩
    replace Z0 := Z0.keep hb2
    replace B0 : Below w.heap.size w w2 := B0.trans (hb2.mono B0.size)
    have za := Z0.at.1
    have zb := Z0.at.2
    have OO := HBad 3 w2 B0
    clear HBad
    go_wp2
    exact bodyPost_ret (v := .agg #[.int .i64 3, .int .i64 0, .slice none 0 0]) (by simp [results, Try.results59, go_sem, za]) rfl (OO _ ((((Off.refl _ _).setCell _ _ (by simp)).setCell _ _ (by simp)).setCell _ _ (by simp)))
end Go.Proofs.Ytepobckhfodngaa
