/-
  Contracts of what the laws draw for chapter 3: mirrors, and mirrors with a fault now and then.
-/
import Derived.Test.YtepobckhfodngabGreatDraw3
import Derived.Test.YtepobckhfodngabGreatMirP
import Derived.Test.YtepobckhfodngabGreatMatP
namespace Go.Proofs.YtepobckhfodngabGreat
open Go.ChangeShapes Go.WideShapes Go.ChangeAt Go.RowKit
set_option linter.unusedVariables false

set_option maxHeartbeats 2000000 in
theorem spec_l3Draw (b : Nat) (a : Option Addr) (cap : Nat) (zs : List Int) (k : Nat) (q : Int) (w : World) (hs : Src w b a cap zs k) (hk : k ≤ 1000000000) (hq : q ≤ 256) :
    Calls Tryz.prog 30 #[.pointer (some ⟨b, 0, none⟩), .int .i64 q] w fun e w' => ∃ (p : Option Addr) (c : Nat) (xs : List Int) (bs : List Nat), e = .returned (.agg #[.int .i64 q, .slice p 4 c]) ∧ Mat w' (.slice p 4 c) (mirRows xs) bs ∧ xs.length = 4 ∧ (∀ y ∈ bs, w.heap.size ≤ y) ∧ Src w' b a cap zs (k + 4) ∧ Off [b] w w' := by
  have Y0 := Blk.new w 38 #[.int .i64 0, .slice none 0 0]
  have S0 := hs.alloc (.cells #[.int .i64 0, .slice none 0 0] 38)
  have O0 : Off [b] w (w.alloc (.cells #[.int .i64 0, .slice none 0 0] 38)) := (Off.refl _ _).alloc _
  have hbl := hs.blk.lt
  clear hs
  go_enter Tryz.func30, Tryz.ntmps30
  go_wp2_with fail
  refine (spec_l3Parts b a cap zs k q _ S0 hk hq).mono ?_
  rintro e w1 ⟨v, xs, bs, rfl, hI, hl4, hf1, s1, o1⟩
  have Y1 := Y0.off o1 (by simp; omega)
  have O1 := O0.trans o1
  have HL : Hid (xs.length = 4) := hl4
  go_wp2_with fail
  refine (spec_l3Of q v xs _ hI.ints.reads hl4).mono ?_
  rintro e w2 ⟨u, b2, rfl, hT, hf2, hb2⟩
  obtain ⟨p, c, rfl, hM⟩ := hT
  have hM2 : Mat w2 (.slice p 4 c) (mirRows xs) b2 := hM
  have hlm : (mirRows xs).length = 4 := by simp [mirRows]
  dsimp only
  rw [hlm]
  have Y2 := Y1.keep hb2
  have yl := Y1.lt
  have s2 := s1.keep hb2
  have O2 : Off [b] w w2 := O1.trans (Off.ofBelow hb2)
  have hz := O1.size
  have ya := Y2.at.1
  have yb := Y2.at.2
  have OO : ∀ W, Off [w.heap.size] w2 W → (∃ (p' : Option Addr) (c' : Nat) (xs : List Int) (bs : List Nat), Ending.returned (.agg #[.int .i64 q, .slice p 4 c]) = .returned (.agg #[.int .i64 q, .slice p' 4 c']) ∧ Mat W (.slice p' 4 c') (mirRows xs) bs ∧ xs.length = 4 ∧ (∀ y ∈ bs, w.heap.size ≤ y) ∧ Src W b a cap zs (k + 4) ∧ Off [b] w W) := fun W OO => ⟨p, c, xs, b2, rfl, hM2.off OO (fun y hy hm => by have := hf2 y hy; simp at hm; omega), HL.out, fun y hy => by have := hf2 y hy; omega, s2.off OO (fun y hy => by simp at hy; omega), O2.fresh OO (fun y hy => by simp at hy; omega)⟩
  clear hM hlm hM2 Y0 Y1 Y2 hI hb2 hf2 hf1 s1 s2 O0 O1 O2 S0 o1
  go_wp2
  exact bodyPost_ret (v := .agg #[.int .i64 q, .slice p 4 c]) (by simp [results, Tryz.results30, go_sem, ya]) rfl (OO _ (((Off.refl _ _).setCell _ _ (by simp)).setCell _ _ (by simp)))
/-- what is drawn: some mirror; and if it has four views and its second one four parts, it is owned -/
def Bent (w0 : World) (b : Nat) (a : Option Addr) (cap : Nat) (zs : List Int) (k : Nat) (u : Value) (w' : World) : Prop := ∃ x : MMirror, (∀ W cs, Off cs w' W → (∀ z ∈ cs, z < w0.heap.size) → RdMirror W u x) ∧ (x.xViews.length = 4 → (x.xViews.getD 1 []).length = 4 → ∃ bs, OwMirror w' u x bs ∧ Sq x.xViews ∧ ∀ y ∈ bs, w0.heap.size ≤ y) ∧ (∃ j, j ≤ 12 ∧ Src w' b a cap zs (k + j)) ∧ Off [b] w0 w'
theorem Bent.own {w0 W : World} {b : Nat} {a : Option Addr} {cap : Nat} {zs : List Int} {k j : Nat} {Q : Int} {p : Option Addr} {c : Nat} {xss : List (List Int)} {bs : List Nat} (hM : Mat W (.slice p 4 c) xss bs) (hs : Sq xss) (hb : ∀ y ∈ bs, w0.heap.size ≤ y) (hj : j ≤ 12) (s : Src W b a cap zs (k + j)) (o : Off [b] w0 W) : Bent w0 b a cap zs k (.agg #[.int .i64 Q, .slice p 4 c]) W :=
  ⟨⟨Q, xss⟩, fun W' cs o' hc => ⟨p, c, by rw [hs.1], by rw [hs.1]; exact (hM.off o' (fun y hy hm => by have := hb y hy; have := hc y hm; omega)).reads⟩, fun _ _ => ⟨bs, ⟨p, c, by rw [hs.1], by rw [hs.1]; exact hM⟩, hs, hb⟩, ⟨j, hj, s⟩, o⟩
set_option maxHeartbeats 4000000 in
set_option maxRecDepth 100000 in
theorem spec_l3Bent (b : Nat) (a : Option Addr) (cap : Nat) (zs : List Int) (k : Nat) (q : Int) (w : World) (hs : Src w b a cap zs k) (hk : k ≤ 900000000) (hq : q ≤ 256) :
    Calls Tryz.prog 31 #[.pointer (some ⟨b, 0, none⟩), .int .i64 q] w fun e w' => ∃ u, e = .returned u ∧ Bent w b a cap zs k u w' := by
  have Y0 := Blk.new w 38 #[.int .i64 0, .slice none 0 0]
  have S0 := hs.alloc (.cells #[.int .i64 0, .slice none 0 0] 38)
  have O0 : Off [b] w (w.alloc (.cells #[.int .i64 0, .slice none 0 0] 38)) := (Off.refl _ _).alloc _
  have hbl := hs.blk.lt
  clear hs
  go_enter Tryz.func31, Tryz.ntmps31
  go_wp2_with fail
  refine (spec_l3Draw b a cap zs k q _ S0 (by omega) hq).mono ?_
  rintro e w1 ⟨p, c, xs, bs, rfl, hM1, hl4, hf1, s1, o1⟩
  have HSQ : Hid (Sq (mirRows xs)) := mirRows_sq hl4
  have Y1 := (Y0.off o1 (by simp; omega)).alloc (.cells #[.int .i64 q, .slice p 4 c] 38)
  have hz1 : w.heap.size < w1.heap.size := by have := o1.size; simp at this; omega
  have O1 : Off [b] w (w1.alloc (.cells #[.int .i64 q, .slice p 4 c] 38)) := (O0.trans o1).alloc _
  have M1 := Blk.new w1 38 #[.int .i64 q, .slice p 4 c]
  have hbm : ∀ y ∈ bs, y < w1.heap.size := hM1.lt
  have hbw : ∀ y ∈ bs, w.heap.size < y := fun y hy => by have := hf1 y hy; simp at this; omega
  replace hM1 := hM1.alloc (.cells #[.int .i64 q, .slice p 4 c] 38)
  replace s1 := s1.alloc (.cells #[.int .i64 q, .slice p 4 c] 38)
  clear hl4 hf1 o1 O0 Y0 S0
  generalize mirRows xs = xss at *
  go_wp2_with fail
  generalize hgM : w1.heap.size = bM at *
  clear hgM
  refine (spec_l1Next b a cap zs (k + 4) 14 _ s1 (by omega) (by omega)).mono ?_
  rintro e w2 ⟨r, rfl, hr, s2, o2⟩
  have Y2 := Y1.off o2 (by simp; omega)
  have M2 := M1.off o2 (by simp; omega)
  have hM2 := hM1.off o2 (fun y hy hm => by have := hbw y hy; simp at hm; omega)
  have O2 := O1.trans o2
  clear Y1 M1 hM1 s1 O1 o2 hr
  by_cases h0 : r = 0
  · have e0 : (r == 0) = true := by simpa using h0
    clear h0
    have z2 := s2.blk.lt
    go_wp2_with fail
    refine (spec_l1Pick b a cap zs _ _ [2, 3, 256] [w2.heap.size] _ (s2.alloc _) (by omega) (Ints.lit w2 _ _ 3 rfl rfl (by omega)) (by simp) (by simp) (by simp; omega)).mono ?_
    rintro e w3 ⟨Q, rfl, hQ, s3, o3⟩
    have Y3 := (Y2.alloc (.cells #[.int .i64 2, .int .i64 3, .int .i64 256] 2)).off o3 (by simp; omega)
    have M3 := (M2.alloc (.cells #[.int .i64 2, .int .i64 3, .int .i64 256] 2)).off o3 (by simp; omega)
    have hM3 := (hM2.alloc (.cells #[.int .i64 2, .int .i64 3, .int .i64 256] 2)).off o3 (fun y hy hm => by have := hbw y hy; simp at hm; omega)
    have O3 : Off [b] w w3 := (O2.alloc _).trans o3
    clear Y2 M2 hM2 s2 O2 o3 hQ
    have ma := M3.at.1
    have mb := M3.at.2
    have ya := Y3.at.1
    have yb := Y3.at.2
    have OO : ∀ W, Off [w.heap.size, bM] w3 W → (∃ u, Ending.returned (.agg #[.int .i64 Q, .slice p 4 c]) = .returned u ∧ Bent w b a cap zs k u W) := fun W OO => ⟨_, rfl, Bent.own (j := 6) (hM3.off OO (fun y hy hm => by have := hbw y hy; have := hbm y hy; simp at hm; omega)) HSQ.out (fun y hy => by have := hbw y hy; omega) (by omega) (s3.off OO (fun y hy => by simp at hy; omega)) (O3.fresh OO (fun y hy => by simp at hy; omega))⟩
    clear hM3 s3 O3
    go_wp2
    exact bodyPost_ret (v := .agg #[.int .i64 Q, .slice p 4 c]) (by simp [results, Tryz.results31, go_sem, ya]) rfl (OO _ ((((Off.refl _ _).setCell _ _ (by simp)).setCell _ _ (by simp)).setCell _ _ (by simp)))
  · have e0 : (r == 0) = false := by simpa using h0
    clear h0
    by_cases h1 : r = 1
    · have e1 : (r == 1) = true := by simpa using h1
      clear h1
      obtain ⟨g, c', gi0, ci0, hv, -, -, hgb, -⟩ := hM2.row 0 (by rw [HSQ.out.1]; omega) (by rw [HSQ.out.2 0 (by omega)]; omega)
      simp only [Value.slice.injEq] at hv
      obtain ⟨rfl, h4q, rfl⟩ := hv
      clear h4q
      obtain ⟨rowF, hF⟩ : ∃ F : Nat → Option Value, ∀ i, w2.cell? ⟨g, i, none⟩ = F i := ⟨_, fun _ => rfl⟩
      have hgw := hbw g hgb
      have hgm := hbm g hgb
      have hg2 : g < w2.heap.size := hM2.lt g hgb
      have z2 := s2.blk.lt
      have HK : Hid (∀ W, Off [b] w2 W → (∀ o, W.cell? ⟨bM, o, none⟩ = (#[.int .i64 q, .slice (some ⟨g, 0, none⟩) 4 c] : Array Value)[o]?) ∧ (∀ i, W.cell? ⟨g, i, none⟩ = rowF i)) := fun W o => ⟨(M2.off o (by simp; omega)).at.1, fun i => ((o.at g hg2 (by simp; omega)).1 i).trans (hF i)⟩
      have HR : Hid (∀ m, m < 4 → ∃ gi ci, rowF m = some (.slice (some ⟨gi, 0, none⟩) 4 ci) ∧ gi ∈ bs ∧ gi ≠ g ∧ (∀ j, j < 4 → ∃ u, w2.cell? ⟨gi, j, none⟩ = some u ∧ w2.frozen? ⟨gi, j, none⟩ = false) ∧ ∀ W cs, Off cs w2 W → (∀ z ∈ bs, z ∉ cs) → ∀ j y, ∃ yss, Sq yss ∧ Mat (W.setCell ⟨gi, j, none⟩ (.int .i64 y)) (.slice (some ⟨g, 0, none⟩) 4 c) yss bs) := fun m hm => by
        have hl := HSQ.out.2 m hm
        obtain ⟨g', c', gi, ci, hv, c1, _, _, hgi, hne, _, hce, hset⟩ := hM2.row m (by rw [HSQ.out.1]; exact hm) (by rw [hl]; omega)
        simp only [Value.slice.injEq, Option.some.injEq, Addr.mk.injEq] at hv
        obtain ⟨⟨rfl, _⟩, _, rfl⟩ := hv
        rw [hl] at c1 hce
        exact ⟨gi, ci, (hF m).symm.trans c1, hgi, hne, fun j hj => ⟨_, hce j hj⟩, fun W cs oW hcs j y => ⟨_, HSQ.out.set m _ (by rw [List.length_set]; exact hl), hset W cs oW hcs j y⟩⟩
      have lM2 := M2.lt
      have oc : Off [b] w2 w2.drew := (Off.refl _ _).drew
      have sc : Src w2.drew b a cap zs (k + 5) := s2.keep (Below.refl _ _).drew
      have t1 : True := trivial
      have t2 : True := trivial
      have ya := Y2.at.1
      have ma := M2.at.1
      clear hM2 hF gi0 ci0
      go_wp2_with fail
      clear ya ma
      go_region_held3 (fun V => (∀ o, V.cell? ⟨bM, o, none⟩ = (#[.int .i64 q, .slice (some ⟨g, 0, none⟩) 4 c] : Array Value)[o]?) ∧ (∀ i, V.cell? ⟨g, i, none⟩ = rowF i)) (first | exact HK.out _ oc | exact HK.out _ (oc.alloc _) | exact HK.out _ oc3 | exact HK.out _ (oc3.alloc _) | exact HK.out _ oc4 | exact HK.out _ (oc4.alloc _) | exact HK.out _ oc5 | exact HSO.out _ ((Off.refl _ _).setCell _ _ (by simp))) (first | (go_at_call 29; have _t := t1; clear _t t1; (first | (refine (spec_l1Next b a cap zs (k + 5) 4 _ (by exact sc) (by omega) (by omega)).mono ?_; rintro e w3 ⟨r1, rfl, hr1, s3, o3⟩; have oc3 := oc.trans o3) | (refine (spec_l1Next b a cap zs (k + 5) 4 _ (by exact sc.alloc _) (by omega) (by omega)).mono ?_; rintro e w3 ⟨r1, rfl, hr1, s3, o3⟩; have oc3 := (oc.alloc _).trans o3; have LI := (Ints.lit w2.drew _ [1, 256, -1, 0] 4 rfl rfl (by omega)).off o3 (fun y hy hm => by simp at hy hm; omega))); obtain ⟨i1, i2⟩ := hr1.1 (by omega); obtain ⟨m1, rfl⟩ := Int.eq_ofNat_of_zero_le i1; obtain ⟨gi, ci, hrF, hgi, hgig, hce, hset⟩ := HR.out m1 (by omega); have HCE := hide hce; have HSET := hide hset; clear hce hset oc sc o3 hr1) | (go_at_call 29; have _t := t2; clear _t t2; (first | (refine (spec_l1Next b a cap zs (k + 5 + 1) 4 _ (by exact s3) (by omega) (by omega)).mono ?_; rintro e w4 ⟨r2, rfl, hr2, s4, o4⟩; have oc4 := oc3.trans o4; (try replace LI := LI.off o4 (fun y hy hm => by simp at hy hm; omega))) | (refine (spec_l1Next b a cap zs (k + 5 + 1) 4 _ (by exact s3.alloc _) (by omega) (by omega)).mono ?_; rintro e w4 ⟨r2, rfl, hr2, s4, o4⟩; have oc4 := (oc3.alloc _).trans o4; have z3 := oc3.size; have LI := (Ints.lit w3 _ [1, 256, -1, 0] 4 rfl rfl (by omega)).off o4 (fun y hy hm => by simp at hy hm; omega))); obtain ⟨i3, i4⟩ := hr2.1 (by omega); obtain ⟨m2, rfl⟩ := Int.eq_ofNat_of_zero_le i3; clear oc3 s3 o4 hr2) | (go_at_call 56; have z4 := oc4.size; (first | (refine (spec_l1Pick b a cap zs (k + 5 + 1 + 1) _ [1, 256, -1, 0] _ _ (by exact s4) (by omega) (by exact LI) (by simp) (by simp) (by simp; omega)).mono ?_; rintro e w5 ⟨y, rfl, hy, s5, o5⟩; have oc5 := oc4.trans o5) | (refine (spec_l1Pick b a cap zs (k + 5 + 1 + 1) _ [1, 256, -1, 0] _ _ (by exact s4.alloc _) (by omega) (by exact Ints.lit w4 _ [1, 256, -1, 0] 4 rfl rfl (by omega)) (by simp) (by simp) (by simp; omega)).mono ?_; rintro e w5 ⟨y, rfl, hy, s5, o5⟩; have oc5 := (oc4.alloc _).trans o5)); have hgib : gi ∉ [b] := (by have := hbw gi hgi; simp; omega); obtain ⟨u5, cu, fu⟩ := HCE.out m2 (by omega); have c5 := ((oc5.at gi (by have := hbm gi hgi; omega) hgib).1 m2).trans cu; have f5 := ((oc5.at gi (by have := hbm gi hgi; omega) hgib).2 m2).trans fu; have HSO : Hid (∀ W, Off [gi] w5 W → (∀ o, W.cell? ⟨bM, o, none⟩ = (#[.int .i64 q, .slice (some ⟨g, 0, none⟩) 4 c] : Array Value)[o]?) ∧ (∀ i, W.cell? ⟨g, i, none⟩ = rowF i)) := (fun W o => ⟨((M2.off oc5 (by simp; omega)).off o (by have := hbm gi hgi; simp; omega)).at.1, fun i => ((o.at g (Nat.lt_of_lt_of_le hg2 oc5.size) (by simpa using Ne.symm hgig)).1 i).trans ((HK.out _ oc5).2 i)⟩); clear oc4 s4 o5 hy cu fu))
      all_goals
        obtain ⟨yss, hsq, hM6⟩ := HSET.out w5 [b] oc5 (fun z hz hm => by have := hbw z hz; simp at hm; omega) m2 y
        have hgiw := hbw gi hgi
        have hgim := hbm gi hgi
        have O6 : Off [gi] w5 (w5.setCell ⟨gi, m2, none⟩ (.int .i64 y)) := (Off.refl _ _).setCell _ _ (by simp)
        have Y6 := (Y2.off oc5 (by simp; omega)).at
        have ya := Y6.1
        have yb := Y6.2
        have ma := (M2.off oc5 (by simp; omega)).at.1
        have OO : ∀ W, Off [w.heap.size] (w5.setCell ⟨gi, m2, none⟩ (.int .i64 y)) W → (∃ u, Ending.returned (.agg #[.int .i64 q, .slice (some ⟨g, 0, none⟩) 4 c]) = .returned u ∧ Bent w b a cap zs k u W) := fun W OO => ⟨_, rfl, Bent.own (j := 8) (hM6.off OO (fun z hz hm => by have := hbw z hz; simp at hm; omega)) hsq (fun z hz => by have := hbw z hz; omega) (by omega) ((s5.off O6 (fun z hz => by simp at hz; omega)).off OO (fun z hz => by simp at hz; omega)) (((O2.trans oc5).fresh O6 (fun z hz => by simp at hz; omega)).fresh OO (fun z hz => by simp at hz; omega))⟩
        clear hM6 O6 s5 c5 f5 Y6
        go_wp2
        exact bodyPost_ret (v := .agg #[.int .i64 q, .slice (some ⟨g, 0, none⟩) 4 c]) (by simp [results, Tryz.results31, go_sem, ya]) rfl (OO _ (((Off.refl _ _).setCell _ _ (by simp)).setCell _ _ (by simp)))
    · have e1 : (r == 1) = false := by simpa using h1
      clear h1
      by_cases h2 : r = 2
      · have e2 : (r == 2) = true := by simpa using h2
        clear h2
        obtain ⟨g, c', gi, ci, hv, -, -, hgb, -⟩ := hM2.row 0 (by rw [HSQ.out.1]; omega) (by rw [HSQ.out.2 0 (by omega)]; omega)
        simp only [Value.slice.injEq] at hv
        obtain ⟨rfl, h4q, rfl⟩ := hv
        clear h4q
        have hcap := hM2.cap.1
        have hD : Hid (∀ W cs, Off cs w2 W → (∀ z ∈ bs, z ∉ cs) → ReadsM W (.slice (some ⟨g, 1, none⟩) 3 (c - 1)) (xss.drop 1)) := fun W cs OO hcs => by
          have h1 := (hM2.off OO hcs).reads
          rw [← HSQ.out.1] at h1
          have h2 := h1.drop1 (by rw [HSQ.out.1]; omega)
          rw [HSQ.out.1] at h2
          exact h2
        have ma := M2.at.1
        have mb := M2.at.2
        have ya := Y2.at.1
        have yb := Y2.at.2
        have OO : ∀ W, Off [w.heap.size, bM] w2 W → (∃ u, Ending.returned (.agg #[.int .i64 q, .slice (some ⟨g, 1, none⟩) 3 (c - 1)]) = .returned u ∧ Bent w b a cap zs k u W) := fun W OO => ⟨_, rfl, ⟨q, xss.drop 1⟩, fun W' cs o' hc => ⟨some ⟨g, 1, none⟩, c - 1, by simp [HSQ.out.1], by rw [List.length_drop, HSQ.out.1]; exact hD.out W' ([w.heap.size, bM] ++ cs) ((OO.mono (fun y hy => List.mem_append_left _ hy)).trans (o'.mono (fun y hy => List.mem_append_right _ hy))) (fun z hz hm => by have := hbw z hz; have := hbm z hz; rcases List.mem_append.1 hm with h | h; (simp at h; omega); (have := hc z h; omega))⟩, fun h => by simp [HSQ.out.1] at h, ⟨5, by omega, s2.off OO (fun y hy => by simp at hy; omega)⟩, O2.fresh OO (fun y hy => by simp at hy; omega)⟩
        clear hM2 s2 O2
        go_wp2
        exact bodyPost_ret (v := .agg #[.int .i64 q, .slice (some ⟨g, 1, none⟩) 3 (c - 1)]) (by simp [results, Tryz.results31, go_sem, ya]) rfl (OO _ ((((Off.refl _ _).setCell _ _ (by simp)).setCell _ _ (by simp)).setCell _ _ (by simp)))
      · have e2 : (r == 2) = false := by simpa using h2
        clear h2
        by_cases h3 : r = 3
        · have e3 : (r == 3) = true := by simpa using h3
          clear h3
          obtain ⟨g, c', gi, ci, hv, c1, f1, hgb, hci, hRd⟩ := hM2.cut 1 (by rw [HSQ.out.1]; omega) (by rw [HSQ.out.2 1 (by omega)]; omega)
          simp only [Value.slice.injEq] at hv
          obtain ⟨rfl, h4q, rfl⟩ := hv
          clear h4q
          have hrl := HSQ.out.2 1 (by omega)
          rw [hrl] at c1 hRd hci
          have hcap := hM2.cap.1
          have hgw := hbw g hgb
          have hgm := hbm g hgb
          have HD : Hid (∀ W cs, Off cs (w2.setCell ⟨g, 1, none⟩ (.slice (some ⟨gi, 1, none⟩) 3 (ci - 1))) W → (∀ z ∈ bs, z ∉ cs) → ReadsM W (.slice (some ⟨g, 0, none⟩) 4 c) (xss.set 1 ((xss.getD 1 []).drop 1))) := fun W cs oW hcs => hRd W _ oW hcs
          have HL2 : Hid (((xss.set 1 ((xss.getD 1 []).drop 1)).getD 1 []).length = 3) := by
            show _ = _
            have : 1 < xss.length := by rw [HSQ.out.1]; omega
            have h4 : (xss.getD 1 []).length = 4 := hrl
            generalize xss.getD 1 [] = row at *
            simp [this, h4]
          have HL3 : Hid ((xss.set 1 ((xss.getD 1 []).drop 1)).length = 4) := by show _ = _; rw [List.length_set]; exact HSQ.out.1
          clear hRd hrl
          have ma := M2.at.1
          have Yd := Y2.drew
          have sd : Src w2.drew b a cap zs (k + 4 + 1) := s2.keep (Below.refl _ _).drew
          have Od : Off [b] w w2.drew := O2.drew
          clear hM2
          go_wp2_with fail
          go_region
          all_goals
            have O3 : Off [g] w2.drew (w2.drew.setCell ⟨g, 1, none⟩ (.slice (some ⟨gi, 1, none⟩) 3 (ci - 1))) := (Off.refl _ _).setCell _ _ (by simp)
            have ya := Y2.at.1
            have yb := Y2.at.2
            have OO : ∀ W, Off [w.heap.size] (w2.drew.setCell ⟨g, 1, none⟩ (.slice (some ⟨gi, 1, none⟩) 3 (ci - 1))) W → (∃ u, Ending.returned (.agg #[.int .i64 q, .slice (some ⟨g, 0, none⟩) 4 c]) = .returned u ∧ Bent w b a cap zs k u W) := fun W OO => ⟨_, rfl, ⟨q, xss.set 1 ((xss.getD 1 []).drop 1)⟩, fun W' cs o' hc => ⟨some ⟨g, 0, none⟩, c, by dsimp only; rw [HL3.out], by dsimp only; rw [HL3.out]; exact HD.out W' ([w.heap.size] ++ cs) (have OX := (OO.mono (cs := [w.heap.size] ++ cs) (fun y hy => List.mem_append_left _ hy)).trans (o'.mono (fun y hy => List.mem_append_right _ hy)); ⟨OX.os, OX.tape, OX.output, OX.size, OX.block⟩) (fun z hz hm => by have := hbw z hz; rcases List.mem_append.1 hm with h | h; (simp at h; omega); (have := hc z h; omega))⟩, fun _ h => by rw [HL2.out] at h; omega, ⟨5, by omega, (sd.off O3 (fun y hy => by simp at hy; omega)).off OO (fun y hy => by simp at hy; omega)⟩, (Od.fresh O3 (fun y hy => by simp at hy; omega)).fresh OO (fun y hy => by simp at hy; omega)⟩
            go_wp2
            exact bodyPost_ret (v := .agg #[.int .i64 q, .slice (some ⟨g, 0, none⟩) 4 c]) (by simp [results, Tryz.results31, go_sem, ya]) rfl (OO _ (((Off.refl _ _).setCell _ _ (by simp)).setCell _ _ (by simp)))
        · have e3 : (r == 3) = false := by simpa using h3
          clear h3
          have ma := M2.at.1
          have ya := Y2.at.1
          have yb := Y2.at.2
          have OO : ∀ W, Off [w.heap.size] w2 W → (∃ u, Ending.returned (.agg #[.int .i64 q, .slice p 4 c]) = .returned u ∧ Bent w b a cap zs k u W) := fun W OO => ⟨_, rfl, Bent.own (j := 5) (hM2.off OO (fun y hy hm => by have := hbw y hy; simp at hm; omega)) HSQ.out (fun y hy => by have := hbw y hy; omega) (by omega) (s2.off OO (fun y hy => by simp at hy; omega)) (O2.fresh OO (fun y hy => by simp at hy; omega))⟩
          clear hM2 s2 O2
          go_wp2
          exact bodyPost_ret (v := .agg #[.int .i64 q, .slice p 4 c]) (by simp [results, Tryz.results31, go_sem, ya]) rfl (OO _ (((Off.refl _ _).setCell _ _ (by simp)).setCell _ _ (by simp)))
end Go.Proofs.YtepobckhfodngabGreat
