/-
  Draws of chapter 2: tapes, whole and bent.
-/
import Derived.Test.YtepobckhfodngabGreatSrc
import Derived.Test.YtepobckhfodngabGreatSeedT
import Derived.Test.YtepobckhfodngabGreatGrow
import Derived.Test.YtepobckhfodngabGreatMatP
import Derived.Deep.CutRange
import Derived.Deep.OwnRows
import Derived.Deep.RegionHeld3
namespace Go.Proofs.YtepobckhfodngabGreat
open Go.ChangeShapes Go.WideShapes Go.ChangeAt Go.RowKit
set_option linter.unusedVariables false

/-- a tape that was drawn -/
def TapeD (xs : List (List Int)) : Prop := xs.length = 4 ∧ (∀ j, (xs.getD j []).length ≤ 900) ∧ ∀ i j, 0 ≤ (xs.getD i []).getD j 0 ∧ (xs.getD i []).getD j 0 ≤ 255
theorem getD_in (P : Int → Prop) (h0 : P 0) (xs : List Int) (h : ∀ y ∈ xs, P y) (j : Nat) : P (xs.getD j 0) := by
  by_cases hj : j < xs.length
  · rw [List.getD_eq_getElem?_getD, List.getElem?_eq_getElem hj]; exact h _ (List.getElem_mem hj)
  · rw [List.getD_eq_getElem?_getD, List.getElem?_eq_none (by omega)]; exact h0
theorem getD_rows (P : List Int → Prop) (h0 : P []) (xs : List (List Int)) (h : ∀ y ∈ xs, P y) (j : Nat) : P (xs.getD j []) := by
  by_cases hj : j < xs.length
  · rw [List.getD_eq_getElem?_getD, List.getElem?_eq_getElem hj]; exact h _ (List.getElem_mem hj)
  · rw [List.getD_eq_getElem?_getD, List.getElem?_eq_none (by omega)]; exact h0
theorem seedRows_D (s : Int) (n : Nat) (hn : n ≤ 900) : TapeD (seedRows s n) := by
  have hrow : ∀ y ∈ seedRows s n, ∃ j, y = seedRow s n j := by
    intro y hy
    simp only [seedRows, List.mem_map] at hy
    obtain ⟨j, _, rfl⟩ := hy
    exact ⟨j, rfl⟩
  refine ⟨by simp [seedRows], fun j => ?_, fun i j => ?_⟩
  · refine getD_rows (fun l => l.length ≤ 900) (by simp) _ (fun y hy => ?_) j
    obtain ⟨j, rfl⟩ := hrow y hy
    rw [seedRow_length]; exact hn
  · refine getD_rows (fun l => 0 ≤ l.getD j 0 ∧ l.getD j 0 ≤ 255) (by simp) _ (fun y hy => ?_) i
    obtain ⟨i, rfl⟩ := hrow y hy
    refine getD_in (fun y => 0 ≤ y ∧ y ≤ 255) (by omega) _ (fun y hy => ?_) j
    simp only [seedRow, List.mem_map] at hy
    obtain ⟨m, _, rfl⟩ := hy
    unfold seedWord
    omega
set_option maxHeartbeats 2000000 in
theorem spec_l2Draw (b : Nat) (a : Option Addr) (cap : Nat) (zs : List Int) (k : Nat) (w : World) (hs : Src w b a cap zs k) (hk : k ≤ 1000000000) :
    Calls Tryz.prog 91 #[.pointer (some ⟨b, 0, none⟩)] w fun e w' => ∃ p c xs bs, e = .returned (.agg #[.slice p 4 c]) ∧ MatT w' (.slice p 4 c) xs bs ∧ TapeD xs ∧ (∀ y ∈ bs, w.heap.size ≤ y) ∧ Src w' b a cap zs (k + 2) ∧ Off [b] w w' := by
  have hbl := hs.blk.lt
  have Y0 := Blk.new w 26 #[.slice none 0 0]
  have nb : w.heap.size ∉ [b] := fun hm => by simp at hm; omega
  go_enter Tryz.func91, Tryz.ntmps91
  go_wp2_with fail
  refine (spec_l1Next b a cap zs k 65536 _ (hs.alloc _) (by omega) (by omega)).mono ?_
  rintro e w1 ⟨r1, rfl, hr1, s1, o1⟩
  have O1 : Off [b] w w1 := ((Off.refl _ _).alloc _).trans o1
  have Y1 := Y0.off o1 nb
  have h1 := hr1.1 (by omega)
  have l1 := s1.blk.lt
  clear hr1 hs Y0 o1
  go_wp2_with fail
  refine (spec_l1Pick b a cap zs (k + 1) _ [40, 12, 0, 200] [w1.heap.size] _ (s1.alloc _) (by omega) (Ints.lit w1 _ _ 4 rfl rfl (by omega)) (by simp) (by simp) (by simp; omega)).mono ?_
  rintro e w2 ⟨r2, rfl, hr2, s2, o2⟩
  replace O1 := (O1.alloc _).trans o2
  replace Y1 := (Y1.alloc _).off o2 nb
  have h2 : 0 ≤ r2 ∧ r2 ≤ 200 := by simp at hr2; omega
  clear hr2 s1 o2
  obtain ⟨n, rfl⟩ := Int.eq_ofNat_of_zero_le h2.1
  go_wp2_with fail
  refine (spec_l2SeedT r1 n _ (by omega) (by omega) (by omega)).mono ?_
  rintro e w3 ⟨u, bs, rfl, ⟨p, c, rfl, hM⟩, hf, b3⟩
  have HD : Hid (TapeD (seedRows r1 n)) := seedRows_D r1 n (by omega)
  have h4 := HD.out.1
  rw [h4] at hM ⊢
  have yl2 := Y1.lt
  replace O1 := O1.trans (Off.ofBelow b3)
  replace Y1 := Y1.keep b3
  have s3 := s2.keep b3
  have hfw : ∀ y ∈ bs, w.heap.size < y := fun y hy => by have := hf y hy; omega
  clear s2 b3 h4
  generalize seedRows r1 n = xs at *
  have ya := Y1.at.1
  have yb := Y1.at.2
  have yl := Y1.lt
  have OO : ∀ W, Off [w.heap.size] w3 W → ∃ p' c' xs bs, Ending.returned (.agg #[.slice p 4 c]) = .returned (.agg #[.slice p' 4 c']) ∧ MatT W (.slice p' 4 c') xs bs ∧ TapeD xs ∧ (∀ y ∈ bs, w.heap.size ≤ y) ∧ Src W b a cap zs (k + 2) ∧ Off [b] w W := fun W O => ⟨p, c, xs, bs, rfl, hM.off O (fun y hy hm => by have := hfw y hy; simp at hm; omega), HD.out, fun y hy => Nat.le_of_lt (hfw y hy), s3.off O (by simp; omega), O1.fresh O (by simp)⟩
  clear hM
  go_wp2
  exact bodyPost_ret (v := .agg #[.slice p 4 c]) (by simp [results, Tryz.results91, go_sem, ya]) rfl (OO _ ((Off.refl _ _).setCell _ _ (by simp)))
/-- a tape that is read: at most four lanes, none too long -/
def TapeB (xs : List (List Int)) : Prop := xs.length ≤ 4 ∧ ∀ j, (xs.getD j []).length ≤ 901
/-- what is drawn, perhaps with a fault: it is read, also behind writes into older boxes -/
def BentT (w0 : World) (b : Nat) (a : Option Addr) (cap : Nat) (zs : List Int) (k : Nat) (u : Value) (w' : World) : Prop := ∃ xs : List (List Int), (∀ W cs, Off cs w' W → (∀ z ∈ cs, z < w0.heap.size) → RdTape W u xs) ∧ TapeB xs ∧ (∃ j, j ≤ 8 ∧ Src w' b a cap zs (k + j)) ∧ Off [b] w0 w'
theorem BentT.own {w0 W : World} {b : Nat} {a : Option Addr} {cap : Nat} {zs : List Int} {k j : Nat} {p : Option Addr} {c : Nat} {xs : List (List Int)} {bs : List Nat} (hM : MatT W (.slice p 4 c) xs bs) (h4 : xs.length = 4) (hr : ∀ j, (xs.getD j []).length ≤ 901) (hb : ∀ y ∈ bs, w0.heap.size ≤ y) (hj : j ≤ 8) (s : Src W b a cap zs (k + j)) (o : Off [b] w0 W) : BentT w0 b a cap zs k (.agg #[.slice p 4 c]) W :=
  ⟨xs, fun W' cs o' hc => ⟨p, c, by rw [h4], by rw [h4]; exact (hM.off o' (fun y hy hm => by have := hb y hy; have := hc y hm; omega)).mat.reads⟩, ⟨by omega, hr⟩, ⟨j, hj, s⟩, o⟩
theorem rows_set {xs : List (List Int)} (h : ∀ j, (xs.getD j []).length ≤ 901) (l : Nat) {ys : List Int} (hy : ys.length ≤ 901) : ∀ j, ((xs.set l ys).getD j []).length ≤ 901 := by
  intro j
  rw [List.getD_eq_getElem?_getD, List.getElem?_set]
  split
  · split
    · simpa using hy
    · simp
  · have := h j
    rwa [List.getD_eq_getElem?_getD] at this
set_option maxHeartbeats 8000000 in
set_option maxRecDepth 100000 in
theorem spec_l2Bent (b : Nat) (a : Option Addr) (cap : Nat) (zs : List Int) (k : Nat) (w : World) (hs : Src w b a cap zs k) (hk : k ≤ 900000000) :
    Calls Tryz.prog 67 #[.pointer (some ⟨b, 0, none⟩)] w fun e w' => ∃ u, e = .returned u ∧ BentT w b a cap zs k u w' := by
  obtain ⟨i1, gi, gz0, gz1, gz2⟩ := info_parts Tryz.infoI
  have Y0 := Blk.new w 26 #[.slice none 0 0]
  have S0 := hs.alloc (.cells #[.slice none 0 0] 26)
  have O0 : Off [b] w (w.alloc (.cells #[.slice none 0 0] 26)) := (Off.refl _ _).alloc _
  have hbl := hs.blk.lt
  clear hs
  go_enter Tryz.func67, Tryz.ntmps67
  go_wp2_with fail
  refine (spec_l2Draw b a cap zs k _ S0 (by omega)).mono ?_
  rintro e w1 ⟨p, c, xs, bs, rfl, hM1, hD, hf1, s1, o1⟩
  have HD : Hid (TapeD xs) := hD
  have hlen := hD.1
  have HL : Hid (xs.length = 4) := hlen
  have HR : Hid (∀ j, (xs.getD j []).length ≤ 900) := hD.2.1
  have Y1 := (Y0.off o1 (by simp; omega)).alloc (.cells #[.slice p 4 c] 26)
  have hz1 : w.heap.size < w1.heap.size := by have := o1.size; simp at this; omega
  have O1 : Off [b] w (w1.alloc (.cells #[.slice p 4 c] 26)) := (O0.trans o1).alloc _
  have M1 := Blk.new w1 26 #[.slice p 4 c]
  have hbm : ∀ y ∈ bs, y < w1.heap.size := hM1.lt
  have hbw : ∀ y ∈ bs, w.heap.size < y := fun y hy => by have := hf1 y hy; simp at this; omega
  replace hM1 := hM1.alloc (.cells #[.slice p 4 c] 26)
  replace s1 := s1.alloc (.cells #[.slice p 4 c] 26)
  clear hD hf1 o1 O0 Y0 S0 hlen
  go_wp2_with fail
  generalize hgM : w1.heap.size = bM at *
  clear hgM
  refine (spec_l1Next b a cap zs (k + 2) 12 _ s1 (by omega) (by omega)).mono ?_
  rintro e w2 ⟨r, rfl, hr, s2, o2⟩
  have Y2 := Y1.off o2 (by simp; omega)
  have M2 := M1.off o2 (by simp; omega)
  have hM2 := hM1.off o2 (fun y hy hm => by have := hbw y hy; simp at hm; omega)
  have O2 := O1.trans o2
  clear Y1 M1 hM1 s1 O1 o2 hr
  have lM := M2.lt
  obtain ⟨g, c2, hbo, eg, -, -⟩ : ∃ g c2, g ∈ bs ∧ (Value.slice p 4 c = .slice (some ⟨g, 0, none⟩) 4 c2) ∧ True ∧ True := by
    obtain ⟨vs, bo, bi, h1, h2, rfl, h3⟩ := hM2
    rw [HL.out] at h1
    obtain ⟨g, c2, rfl, eg, -, -⟩ := Own.shape h1 (by omega)
    exact ⟨g, c2, by simp, eg, trivial, trivial⟩
  simp only [Value.slice.injEq, true_and] at eg
  obtain ⟨rfl, rfl⟩ := eg
  have hgw := hbw g hbo
  have hgm := hbm g hbo
  have hcap := hM2.mat.cap
  by_cases h0 : r = 0
  · have e0 : (r == 0) = true := by simpa using h0
    clear h0
    have hD1 : Hid (∀ W cs, Off cs w2 W → (∀ z ∈ bs, z ∉ cs) → ReadsM W (.slice (some ⟨g, 1, none⟩) 3 (c - 1)) (xs.drop 1)) := fun W cs OO hcs => by
      have h1 := (hM2.off OO hcs).mat.reads
      rw [← HL.out] at h1
      have h2 := h1.drop1 (by rw [HL.out]; omega)
      rw [HL.out] at h2
      exact h2
    have HB : Hid (TapeB (xs.drop 1)) := ⟨by rw [List.length_drop, HL.out]; omega, fun j => by
        have := HR.out (1 + j)
        rw [List.getD_eq_getElem?_getD] at this ⊢
        rw [List.getElem?_drop]
        omega⟩
    have ma := M2.at.1
    have mb := M2.at.2
    have ya := Y2.at.1
    have yb := Y2.at.2
    have yl := Y2.lt
    have OO : ∀ W, Off [w.heap.size, bM] w2 W → (∃ u, Ending.returned (.agg #[.slice (some ⟨g, 1, none⟩) 3 (c - 1)]) = .returned u ∧ BentT w b a cap zs k u W) := fun W OO => ⟨_, rfl, xs.drop 1, fun W' cs o' hc => ⟨some ⟨g, 1, none⟩, c - 1, by simp [HL.out], by rw [List.length_drop, HL.out]; exact hD1.out W' ([w.heap.size, bM] ++ cs) ((OO.mono (fun y hy => List.mem_append_left _ hy)).trans (o'.mono (fun y hy => List.mem_append_right _ hy))) (fun z hz hm => by have := hbw z hz; have := hbm z hz; rcases List.mem_append.1 hm with h | h; (simp at h; omega); (have := hc z h; omega))⟩, HB.out, ⟨3, by omega, s2.off OO (fun y hy => by simp at hy; omega)⟩, O2.fresh OO (fun y hy => by simp at hy; omega)⟩
    clear hM2 s2 O2
    go_wp2
    exact bodyPost_ret (v := .agg #[.slice (some ⟨g, 1, none⟩) 3 (c - 1)]) (by simp [results, Tryz.results67, go_sem, ya]) rfl (OO _ (((Off.refl _ _).setCell _ _ (by simp)).setCell _ _ (by simp)))
  · have e0 : (r == 0) = false := by simpa using h0
    clear h0
    by_cases h1 : r = 1
    · have e1 : (r == 1) = true := by simpa using h1
      clear h1
      have ma := M2.at.1
      go_wp2_with fail
      clear ma
      obtain ⟨vr, bt, It, ct, ft, nHt, gin, bin, -⟩ := hM2.grow 2 (by rw [HL.out]; omega)
      obtain ⟨pr, cr, rfl⟩ := Own.value It
      have hrl : (xs.getD 2 []).length ≤ 900 := HR.out 2
      have HX : Hid (xs.getD 2 [] = xs.getD 2 []) := rfl
      generalize hrw : xs.getD 2 [] = row at *
      have HW : Hid (xs.getD 2 [] = row) := hrw
      have hrl2 : row.length ≤ 900 := hrl
      clear hrw HX
      refine wp_region_held (S := fun V => (∀ o, V.cell? ⟨bM, o, none⟩ = (#[.slice (some ⟨g, 0, none⟩) 4 c] : Array Value)[o]?)) (by kernel_rfl) ?_
      try (change wpAnyH _ _ _ _ _ _ _ _ (World.drew _))
      have Md := M2.drew
      have sd : Src w2.drew b a cap zs (k + 2 + 1) := s2.keep (Below.refl _ _).drew
      have hS : (∀ o, w2.drew.cell? ⟨bM, o, none⟩ = (#[.slice (some ⟨g, 0, none⟩) 4 c] : Array Value)[o]?) := Md.at.1
      have c0 : w2.drew.cell? ⟨g, 2, none⟩ = some (.slice pr row.length cr) := ct
      have ltg : g < w2.heap.size := by omega
      have nbt : ∀ y ∈ bt, y ∉ [b] := fun y hy hm => by have := hbw y (bin y hy); simp at hm; omega
      have nbM : bM ∉ bt := fun hm => by have := hbm _ (bin _ hm); omega
      have nw : w.heap.size ∉ bt := fun hm => by have := hbw _ (bin _ hm); omega
      refine wpAnyH_take (i := 0) (v := .pointer (some ⟨bM, 0, none⟩)) rfl (by kernel_rfl) (by kernel_rfl) (by kernel_rfl) (fun _ _ _ h => h) (Or.inl ⟨by rfl, ?_⟩) hS ?_
      · intro w' hSw
        go_simp
      (try simp only [List.getElem_toArray]); (try simp only [List.getElem_cons_succ]); (try simp only [List.getElem_cons_zero]); (try simp only [Act.put]); (try simp only [List.setIfInBounds_toArray]); (try simp only [List.set_cons_succ]); (try simp only [List.set_cons_zero])
      refine wpAnyH_take (i := 1) (v := .slice (some ⟨g, 0, none⟩) 4 c) rfl (by kernel_rfl) (by kernel_rfl) (by kernel_rfl) (fun _ _ _ h => h) (Or.inl ⟨by rfl, ?_⟩) hS ?_
      · intro w' hSw
        go_simp
      (try simp only [List.getElem_toArray]); (try simp only [List.getElem_cons_succ]); (try simp only [List.getElem_cons_zero]); (try simp only [Act.put]); (try simp only [List.setIfInBounds_toArray]); (try simp only [List.set_cons_succ]); (try simp only [List.set_cons_zero])
      refine wpAnyH_take (i := 2) (v := .pointer (some ⟨bM, 0, none⟩)) rfl (by kernel_rfl) (by kernel_rfl) (by kernel_rfl) (fun _ _ _ h => h) (Or.inl ⟨by rfl, ?_⟩) hS ?_
      · intro w' hSw
        go_simp
      (try simp only [List.getElem_toArray]); (try simp only [List.getElem_cons_succ]); (try simp only [List.getElem_cons_zero]); (try simp only [Act.put]); (try simp only [List.setIfInBounds_toArray]); (try simp only [List.set_cons_succ]); (try simp only [List.set_cons_zero])
      refine wpAnyH_take (i := 3) (v := .slice (some ⟨g, 0, none⟩) 4 c) rfl (by kernel_rfl) (by kernel_rfl) (by kernel_rfl) (fun _ _ _ h => h) (Or.inl ⟨by rfl, ?_⟩) hS ?_
      · intro w' hSw
        go_simp
      (try simp only [List.getElem_toArray]); (try simp only [List.getElem_cons_succ]); (try simp only [List.getElem_cons_zero]); (try simp only [Act.put]); (try simp only [List.setIfInBounds_toArray]); (try simp only [List.set_cons_succ]); (try simp only [List.set_cons_zero])
      refine wpAnyH_take (i := 4) (v := .pointer (some ⟨g, 2, none⟩)) rfl (by kernel_rfl) (by kernel_rfl) (by kernel_rfl) (fun _ _ _ h => h) (Or.inl ⟨by rfl, ?_⟩) hS ?_
      · intro w' hSw
        go_simp
      (try simp only [List.getElem_toArray]); (try simp only [List.getElem_cons_succ]); (try simp only [List.getElem_cons_zero]); (try simp only [Act.put]); (try simp only [List.setIfInBounds_toArray]); (try simp only [List.set_cons_succ]); (try simp only [List.set_cons_zero])
      refine wpAnyH_take (i := 6) (v := .pointer (some ⟨b, 0, none⟩)) rfl (by kernel_rfl) (by kernel_rfl) (by kernel_rfl) (fun _ _ _ h => h) (Or.inl ⟨by rfl, ?_⟩) hS ?_
      · intro w' hSw
        go_simp
      (try simp only [List.getElem_toArray]); (try simp only [List.getElem_cons_succ]); (try simp only [List.getElem_cons_zero]); (try simp only [Act.put]); (try simp only [List.setIfInBounds_toArray]); (try simp only [List.set_cons_succ]); (try simp only [List.set_cons_zero])
      refine wpAnyH_ready (rs := [5, 7]) (by kernel_rfl) (by simp) ?_
      refine AllReadyH.cons (o := _) rfl (fun K hK => ?_) (AllReadyH.cons (o := _) rfl (fun K hK => ?_) AllReadyH.nil)
      · rw [if_pos (by rfl)]
        go_simp
        refine hK.out _ _ hS (fun hS => ?_)
        clear hK K
        (try simp only [List.getElem_toArray]); (try simp only [List.getElem_cons_succ]); (try simp only [List.getElem_cons_zero]); (try simp only [Act.put]); (try simp only [List.setIfInBounds_toArray]); (try simp only [List.set_cons_succ]); (try simp only [List.set_cons_zero])
        refine wpAnyH_ready (rs := [7]) (by kernel_rfl) (by simp) ?_
        refine AllReadyH.cons (o := _) rfl (fun K hK => ?_) AllReadyH.nil
        rw [if_pos (by rfl)]
        go_simp
        refine hK.out _ _ (Md.alloc (.cells #[.int .i64 0, .int .i64 256, .int .i64 (-1)] 2)).at.1 (fun hS => ?_)
        clear hK K
        (try simp only [List.getElem_toArray]); (try simp only [List.getElem_cons_succ]); (try simp only [List.getElem_cons_zero]); (try simp only [Act.put]); (try simp only [List.setIfInBounds_toArray]); (try simp only [List.set_cons_succ]); (try simp only [List.set_cons_zero])
        have c1 : (w2.drew.alloc (.cells #[.int .i64 0, .int .i64 256, .int .i64 (-1)] 2)).cell? ⟨g, 2, none⟩ = some (.slice pr row.length cr) := (((Below.refl w2.drew.heap.size w2.drew).alloc (Nat.le_refl _) (.cells #[.int .i64 0, .int .i64 256, .int .i64 (-1)] 2)).cell (p := ⟨g, 2, none⟩) ltg).trans c0
        refine wpAnyH_ready (rs := [8]) (by kernel_rfl) (by simp) ?_
        refine AllReadyH.cons (o := _) rfl (fun K hK => ?_) AllReadyH.nil
        rw [if_pos (by rfl)]
        go_simp
        go_at_call 56
        refine (spec_l1Pick b a cap zs _ _ [0, 256, -1] [w2.heap.size] _ (sd.alloc _) (by omega) (Ints.lit w2.drew _ _ 3 rfl rfl (by omega)) (by simp) (by simp) (by simp; omega)).mono ?_
        rintro e w3 ⟨r2, rfl, hr2, s3, o3⟩
        have M3 := (Md.alloc (.cells #[.int .i64 0, .int .i64 256, .int .i64 (-1)] 2)).off o3 (by simp; omega)
        have Y3 := (Y2.drew.alloc (.cells #[.int .i64 0, .int .i64 256, .int .i64 (-1)] 2)).off o3 (by simp; omega)
        have hM3 := ((hM2.keep (Below.refl _ _).drew).alloc (.cells #[.int .i64 0, .int .i64 256, .int .i64 (-1)] 2)).off o3 (fun y hy hm => by have := hbw y hy; simp at hm; omega)
        have O3w : Off [b] w w3 := (O2.drew.alloc (.cells #[.int .i64 0, .int .i64 256, .int .i64 (-1)] 2)).trans o3
        have ltg1 : g < (w2.drew.alloc (.cells #[.int .i64 0, .int .i64 256, .int .i64 (-1)] 2)).heap.size := by simp; exact Nat.lt_succ_of_lt ltg
        have c3 : w3.cell? ⟨g, 2, none⟩ = some (.slice pr row.length cr) := ((o3.at g ltg1 (by simp; omega)).1 2).trans ((((Below.refl w2.drew.heap.size w2.drew).alloc (Nat.le_refl _) (.cells #[.int .i64 0, .int .i64 256, .int .i64 (-1)] 2)).cell (p := ⟨g, 2, none⟩) ltg).trans c0)
        have lg3 : g < w3.heap.size := Nat.lt_of_lt_of_le ltg1 o3.size
        have l23 : w2.heap.size < w3.heap.size := by have := o3.size; simp at this; exact this
        dsimp only
        refine hK.out _ _ M3.at.1 (fun hS => ?_)
        clear hK K
        (try simp only [List.getElem_toArray]); (try simp only [List.getElem_cons_succ]); (try simp only [List.getElem_cons_zero]); (try simp only [Act.put]); (try simp only [List.setIfInBounds_toArray]); (try simp only [List.set_cons_succ]); (try simp only [List.set_cons_zero])
        refine wpAnyH_ready (rs := [9]) (by kernel_rfl) (by simp) ?_
        refine AllReadyH.cons (o := _) rfl (fun K hK => ?_) AllReadyH.nil
        rw [if_pos (by rfl)]
        go_simp
        refine hK.out _ _ (M3.alloc (.cells #[.int .i64 r2] 2)).at.1 (fun hS => ?_)
        clear hK K
        (try simp only [List.getElem_toArray]); (try simp only [List.getElem_cons_succ]); (try simp only [List.getElem_cons_zero]); (try simp only [Act.put]); (try simp only [List.setIfInBounds_toArray]); (try simp only [List.set_cons_succ]); (try simp only [List.set_cons_zero])
        have c4 : (w3.alloc (.cells #[.int .i64 r2] 2)).cell? ⟨g, 2, none⟩ = some (.slice pr row.length cr) := (((Below.refl w3.heap.size w3).alloc (Nat.le_refl _) (.cells #[.int .i64 r2] 2)).cell (p := ⟨g, 2, none⟩) lg3).trans c3
        refine wpAnyH_ready (rs := [10]) (by kernel_rfl) (by simp) ?_
        refine AllReadyH.cons (o := _) rfl (fun K hK => ?_) AllReadyH.nil
        obtain ⟨vr', bu, Iu, cu, fu, nHu, ginu, binu, AFTER⟩ := hM3.grow 2 (by rw [HL.out]; omega)
        obtain rfl : vr' = .slice pr row.length cr := Option.some.inj (cu.symm.trans c3)
        rw [HW.out] at Iu
        refine step_append_Own rfl (.tmp 21) (.tmp 25) 27 rfl 2 i1 (.int .i64 0) 1 8 Tryz.underlying27 gi gz0 gz1 gz2 rfl (by decide) (.slice pr row.length cr) row.length (row.map (Value.int .i64)) bu rfl (Own.alloc Iu _) ⟨w3.heap.size, 0, none⟩ 1 1 [.int .i64 r2] rfl rfl (one_new (Blk.new w3 2 #[.int .i64 r2])) (by intro y hy; simp at hy; subst hy; rfl) (by omega) (by unfold maxLen; omega) (by omega) ?_
        intro g2 cap2 w4 hO4 hF4 hg4
        have nuM : bM ∉ bu := fun hm => by have := hbm _ (binu _ hm); omega
        have nuw : w.heap.size ∉ bu := fun hm => by have := hbw _ (binu _ hm); omega
        have nub : b ∉ bu := fun hm => by have := hbw _ (binu _ hm); omega
        have M4 := (M3.alloc (.cells #[.int .i64 r2] 2)).off hF4 nuM
        have ltH2 : g < (w3.alloc (.cells #[.int .i64 r2] 2)).heap.size := by simp; exact Nat.lt_succ_of_lt lg3
        have c5 : w4.cell? ⟨g, 2, none⟩ = some (.slice pr row.length cr) := ((hF4.at g ltH2 nHu).1 2).trans ((((Below.refl w3.heap.size w3).alloc (Nat.le_refl _) (.cells #[.int .i64 r2] 2)).cell (p := ⟨g, 2, none⟩) lg3).trans c3)
        have f5 : w4.frozen? ⟨g, 2, none⟩ = false := ((hF4.at g ltH2 nHu).2 2).trans ((((Below.refl w3.heap.size w3).alloc (Nat.le_refl _) (.cells #[.int .i64 r2] 2)).frozen (p := ⟨g, 2, none⟩) lg3).trans fu)
        refine hK.out _ _ M4.at.1 (fun hS => ?_)
        clear hK K
        (try simp only [List.getElem_toArray]); (try simp only [List.getElem_cons_succ]); (try simp only [List.getElem_cons_zero]); (try simp only [Act.put]); (try simp only [List.setIfInBounds_toArray]); (try simp only [List.set_cons_succ]); (try simp only [List.set_cons_zero])
        refine wpAnyH_take (i := 11) (v := .pointer (some ⟨g, 2, none⟩)) rfl (by kernel_rfl) (by kernel_rfl) (by kernel_rfl) (fun _ _ _ h => h) (Or.inl ⟨by rfl, ?_⟩) hS ?_
        · intro w' hSw
          go_simp
        (try simp only [List.getElem_toArray]); (try simp only [List.getElem_cons_succ]); (try simp only [List.getElem_cons_zero]); (try simp only [Act.put]); (try simp only [List.setIfInBounds_toArray]); (try simp only [List.set_cons_succ]); (try simp only [List.set_cons_zero])
        refine wpAnyH_ready (rs := [12]) (by kernel_rfl) (by simp) ?_
        refine AllReadyH.cons (o := _) rfl (fun K hK => ?_) AllReadyH.nil
        rw [if_pos (by rfl)]
        go_simp
        have oF : Off bu w3 w4 := ((Off.refl bu w3).alloc (.cells #[.int .i64 r2] 2)).trans hF4
        have M5 := M4.setOther ⟨g, 2, none⟩ (.slice (some ⟨g2, 0, none⟩) (row.length + 1) cap2) (by simp; omega)
        refine hK.out _ _ M5.at.1 (fun hS => ?_)
        clear hK K
        refine wpAnyH_done (by kernel_rfl) ?_ _
        obtain ⟨cs, M8, hcs⟩ := AFTER w4 (.slice (some ⟨g2, 0, none⟩) (row.length + 1) cap2) (row ++ [r2]) g2 oF (by unfold IntsT; simpa using hO4) (hg4.imp id (fun h => by (try simp at h); omega))
        have hcs2 : ∀ y ∈ cs, w.heap.size < y := fun y hy => (hcs y hy).elim (fun h => hbw y h) (fun e => by rw [e]; exact hg4.elim (fun h => hbw g2 (binu g2 (by rw [h]; simp))) (fun h => by have := Y3.lt; (try simp at h); omega))
        have oG : Off bs w3 (w4.setCell ⟨g, 2, none⟩ (.slice (some ⟨g2, 0, none⟩) (row.length + 1) cap2)) := (oF.mono binu).setCell _ _ (.inl ginu)
        have Y5 := Y3.off oG (fun hm => by have := hbw _ hm; omega)
        have s5 := s3.off oG (fun y hy => by have := hbw y hy; omega)
        have O5 := O3w.fresh oG (fun y hy => Nat.le_of_lt (hbw y hy))
        generalize w4.setCell ⟨g, 2, none⟩ (.slice (some ⟨g2, 0, none⟩) (row.length + 1) cap2) = w5 at *
        have yl4 : (xs.set 2 (row ++ [r2])).length = 4 := by rw [List.length_set]; exact HL.out
        have HYL : Hid ((xs.set 2 (row ++ [r2])).length = 4) := yl4
        have yrows := (show Hid _ from rows_set (xs := xs) (fun j => by have := HR.out j; omega) 2 (show (row ++ [r2]).length ≤ 901 by rw [List.length_append]; show row.length + 1 ≤ 901; omega))
        clear yl4 hM2 hM3 M2 Md M3 M4 Y2 Y3 s2 sd s3 O2 O3w oF oG hO4 hF4 hg4 c0 c3 c5 f5 It Iu ct cu ft fu hS
        generalize xs.set 2 (row ++ [r2]) = ys at *
        have ma := M5.at.1
        have mb := M5.at.2
        have ya := Y5.at.1
        have yb := Y5.at.2
        have yl := Y5.lt
        have ml := M5.lt
        have OO : ∀ W, Off [w.heap.size] w5 W → (∃ u, Ending.returned (.agg #[.slice (some ⟨g, 0, none⟩) 4 c]) = .returned u ∧ BentT w b a cap zs k u W) := fun W OO => ⟨_, rfl, BentT.own (j := 4) (M8.off OO (fun y hy hm => by have := hcs2 y hy; simp at hm; omega)) HYL.out yrows.out (fun y hy => by have := hcs2 y hy; omega) (by omega) (s5.off OO (fun y hy => by simp at hy; omega)) (O5.fresh OO (by simp))⟩
        clear M8 s5 O5
        go_wp2
        exact bodyPost_ret (v := .agg #[.slice (some ⟨g, 0, none⟩) 4 c]) (by simp [results, Tryz.results67, go_sem, ya]) rfl (OO _ ((Off.refl _ _).setCell _ _ (by simp)))
      · rw [if_pos (by rfl)]
        go_simp
        refine hK.out _ _ (Md.alloc (.cells #[.int .i64 0, .int .i64 256, .int .i64 (-1)] 2)).at.1 (fun hS => ?_)
        clear hK K
        (try simp only [List.getElem_toArray]); (try simp only [List.getElem_cons_succ]); (try simp only [List.getElem_cons_zero]); (try simp only [Act.put]); (try simp only [List.setIfInBounds_toArray]); (try simp only [List.set_cons_succ]); (try simp only [List.set_cons_zero])
        have c1 : (w2.drew.alloc (.cells #[.int .i64 0, .int .i64 256, .int .i64 (-1)] 2)).cell? ⟨g, 2, none⟩ = some (.slice pr row.length cr) := (((Below.refl w2.drew.heap.size w2.drew).alloc (Nat.le_refl _) (.cells #[.int .i64 0, .int .i64 256, .int .i64 (-1)] 2)).cell (p := ⟨g, 2, none⟩) ltg).trans c0
        refine wpAnyH_ready (rs := [5, 8]) (by kernel_rfl) (by simp) ?_
        refine AllReadyH.cons (o := _) rfl (fun K hK => ?_) (AllReadyH.cons (o := _) rfl (fun K hK => ?_) AllReadyH.nil)
        · rw [if_pos (by rfl)]
          go_simp
          refine hK.out _ _ hS (fun hS => ?_)
          clear hK K
          (try simp only [List.getElem_toArray]); (try simp only [List.getElem_cons_succ]); (try simp only [List.getElem_cons_zero]); (try simp only [Act.put]); (try simp only [List.setIfInBounds_toArray]); (try simp only [List.set_cons_succ]); (try simp only [List.set_cons_zero])
          refine wpAnyH_ready (rs := [8]) (by kernel_rfl) (by simp) ?_
          refine AllReadyH.cons (o := _) rfl (fun K hK => ?_) AllReadyH.nil
          rw [if_pos (by rfl)]
          go_simp
          go_at_call 56
          refine (spec_l1Pick b a cap zs _ _ [0, 256, -1] [w2.heap.size] _ (sd.alloc _) (by omega) (Ints.lit w2.drew _ _ 3 rfl rfl (by omega)) (by simp) (by simp) (by simp; omega)).mono ?_
          rintro e w3 ⟨r2, rfl, hr2, s3, o3⟩
          have M3 := (Md.alloc (.cells #[.int .i64 0, .int .i64 256, .int .i64 (-1)] 2)).off o3 (by simp; omega)
          have Y3 := (Y2.drew.alloc (.cells #[.int .i64 0, .int .i64 256, .int .i64 (-1)] 2)).off o3 (by simp; omega)
          have hM3 := ((hM2.keep (Below.refl _ _).drew).alloc (.cells #[.int .i64 0, .int .i64 256, .int .i64 (-1)] 2)).off o3 (fun y hy hm => by have := hbw y hy; simp at hm; omega)
          have O3w : Off [b] w w3 := (O2.drew.alloc (.cells #[.int .i64 0, .int .i64 256, .int .i64 (-1)] 2)).trans o3
          have ltg1 : g < (w2.drew.alloc (.cells #[.int .i64 0, .int .i64 256, .int .i64 (-1)] 2)).heap.size := by simp; exact Nat.lt_succ_of_lt ltg
          have c3 : w3.cell? ⟨g, 2, none⟩ = some (.slice pr row.length cr) := ((o3.at g ltg1 (by simp; omega)).1 2).trans ((((Below.refl w2.drew.heap.size w2.drew).alloc (Nat.le_refl _) (.cells #[.int .i64 0, .int .i64 256, .int .i64 (-1)] 2)).cell (p := ⟨g, 2, none⟩) ltg).trans c0)
          have lg3 : g < w3.heap.size := Nat.lt_of_lt_of_le ltg1 o3.size
          have l23 : w2.heap.size < w3.heap.size := by have := o3.size; simp at this; exact this
          dsimp only
          refine hK.out _ _ M3.at.1 (fun hS => ?_)
          clear hK K
          (try simp only [List.getElem_toArray]); (try simp only [List.getElem_cons_succ]); (try simp only [List.getElem_cons_zero]); (try simp only [Act.put]); (try simp only [List.setIfInBounds_toArray]); (try simp only [List.set_cons_succ]); (try simp only [List.set_cons_zero])
          refine wpAnyH_ready (rs := [9]) (by kernel_rfl) (by simp) ?_
          refine AllReadyH.cons (o := _) rfl (fun K hK => ?_) AllReadyH.nil
          rw [if_pos (by rfl)]
          go_simp
          refine hK.out _ _ (M3.alloc (.cells #[.int .i64 r2] 2)).at.1 (fun hS => ?_)
          clear hK K
          (try simp only [List.getElem_toArray]); (try simp only [List.getElem_cons_succ]); (try simp only [List.getElem_cons_zero]); (try simp only [Act.put]); (try simp only [List.setIfInBounds_toArray]); (try simp only [List.set_cons_succ]); (try simp only [List.set_cons_zero])
          have c4 : (w3.alloc (.cells #[.int .i64 r2] 2)).cell? ⟨g, 2, none⟩ = some (.slice pr row.length cr) := (((Below.refl w3.heap.size w3).alloc (Nat.le_refl _) (.cells #[.int .i64 r2] 2)).cell (p := ⟨g, 2, none⟩) lg3).trans c3
          refine wpAnyH_ready (rs := [10]) (by kernel_rfl) (by simp) ?_
          refine AllReadyH.cons (o := _) rfl (fun K hK => ?_) AllReadyH.nil
          obtain ⟨vr', bu, Iu, cu, fu, nHu, ginu, binu, AFTER⟩ := hM3.grow 2 (by rw [HL.out]; omega)
          obtain rfl : vr' = .slice pr row.length cr := Option.some.inj (cu.symm.trans c3)
          rw [HW.out] at Iu
          refine step_append_Own rfl (.tmp 21) (.tmp 25) 27 rfl 2 i1 (.int .i64 0) 1 8 Tryz.underlying27 gi gz0 gz1 gz2 rfl (by decide) (.slice pr row.length cr) row.length (row.map (Value.int .i64)) bu rfl (Own.alloc Iu _) ⟨w3.heap.size, 0, none⟩ 1 1 [.int .i64 r2] rfl rfl (one_new (Blk.new w3 2 #[.int .i64 r2])) (by intro y hy; simp at hy; subst hy; rfl) (by omega) (by unfold maxLen; omega) (by omega) ?_
          intro g2 cap2 w4 hO4 hF4 hg4
          have nuM : bM ∉ bu := fun hm => by have := hbm _ (binu _ hm); omega
          have nuw : w.heap.size ∉ bu := fun hm => by have := hbw _ (binu _ hm); omega
          have nub : b ∉ bu := fun hm => by have := hbw _ (binu _ hm); omega
          have M4 := (M3.alloc (.cells #[.int .i64 r2] 2)).off hF4 nuM
          have ltH2 : g < (w3.alloc (.cells #[.int .i64 r2] 2)).heap.size := by simp; exact Nat.lt_succ_of_lt lg3
          have c5 : w4.cell? ⟨g, 2, none⟩ = some (.slice pr row.length cr) := ((hF4.at g ltH2 nHu).1 2).trans ((((Below.refl w3.heap.size w3).alloc (Nat.le_refl _) (.cells #[.int .i64 r2] 2)).cell (p := ⟨g, 2, none⟩) lg3).trans c3)
          have f5 : w4.frozen? ⟨g, 2, none⟩ = false := ((hF4.at g ltH2 nHu).2 2).trans ((((Below.refl w3.heap.size w3).alloc (Nat.le_refl _) (.cells #[.int .i64 r2] 2)).frozen (p := ⟨g, 2, none⟩) lg3).trans fu)
          refine hK.out _ _ M4.at.1 (fun hS => ?_)
          clear hK K
          (try simp only [List.getElem_toArray]); (try simp only [List.getElem_cons_succ]); (try simp only [List.getElem_cons_zero]); (try simp only [Act.put]); (try simp only [List.setIfInBounds_toArray]); (try simp only [List.set_cons_succ]); (try simp only [List.set_cons_zero])
          refine wpAnyH_take (i := 11) (v := .pointer (some ⟨g, 2, none⟩)) rfl (by kernel_rfl) (by kernel_rfl) (by kernel_rfl) (fun _ _ _ h => h) (Or.inl ⟨by rfl, ?_⟩) hS ?_
          · intro w' hSw
            go_simp
          (try simp only [List.getElem_toArray]); (try simp only [List.getElem_cons_succ]); (try simp only [List.getElem_cons_zero]); (try simp only [Act.put]); (try simp only [List.setIfInBounds_toArray]); (try simp only [List.set_cons_succ]); (try simp only [List.set_cons_zero])
          refine wpAnyH_ready (rs := [12]) (by kernel_rfl) (by simp) ?_
          refine AllReadyH.cons (o := _) rfl (fun K hK => ?_) AllReadyH.nil
          rw [if_pos (by rfl)]
          go_simp
          have oF : Off bu w3 w4 := ((Off.refl bu w3).alloc (.cells #[.int .i64 r2] 2)).trans hF4
          have M5 := M4.setOther ⟨g, 2, none⟩ (.slice (some ⟨g2, 0, none⟩) (row.length + 1) cap2) (by simp; omega)
          refine hK.out _ _ M5.at.1 (fun hS => ?_)
          clear hK K
          refine wpAnyH_done (by kernel_rfl) ?_ _
          obtain ⟨cs, M8, hcs⟩ := AFTER w4 (.slice (some ⟨g2, 0, none⟩) (row.length + 1) cap2) (row ++ [r2]) g2 oF (by unfold IntsT; simpa using hO4) (hg4.imp id (fun h => by (try simp at h); omega))
          have hcs2 : ∀ y ∈ cs, w.heap.size < y := fun y hy => (hcs y hy).elim (fun h => hbw y h) (fun e => by rw [e]; exact hg4.elim (fun h => hbw g2 (binu g2 (by rw [h]; simp))) (fun h => by have := Y3.lt; (try simp at h); omega))
          have oG : Off bs w3 (w4.setCell ⟨g, 2, none⟩ (.slice (some ⟨g2, 0, none⟩) (row.length + 1) cap2)) := (oF.mono binu).setCell _ _ (.inl ginu)
          have Y5 := Y3.off oG (fun hm => by have := hbw _ hm; omega)
          have s5 := s3.off oG (fun y hy => by have := hbw y hy; omega)
          have O5 := O3w.fresh oG (fun y hy => Nat.le_of_lt (hbw y hy))
          generalize w4.setCell ⟨g, 2, none⟩ (.slice (some ⟨g2, 0, none⟩) (row.length + 1) cap2) = w5 at *
          have yl4 : (xs.set 2 (row ++ [r2])).length = 4 := by rw [List.length_set]; exact HL.out
          have HYL : Hid ((xs.set 2 (row ++ [r2])).length = 4) := yl4
          have yrows := (show Hid _ from rows_set (xs := xs) (fun j => by have := HR.out j; omega) 2 (show (row ++ [r2]).length ≤ 901 by rw [List.length_append]; show row.length + 1 ≤ 901; omega))
          clear yl4 hM2 hM3 M2 Md M3 M4 Y2 Y3 s2 sd s3 O2 O3w oF oG hO4 hF4 hg4 c0 c3 c5 f5 It Iu ct cu ft fu hS
          generalize xs.set 2 (row ++ [r2]) = ys at *
          have ma := M5.at.1
          have mb := M5.at.2
          have ya := Y5.at.1
          have yb := Y5.at.2
          have yl := Y5.lt
          have ml := M5.lt
          have OO : ∀ W, Off [w.heap.size] w5 W → (∃ u, Ending.returned (.agg #[.slice (some ⟨g, 0, none⟩) 4 c]) = .returned u ∧ BentT w b a cap zs k u W) := fun W OO => ⟨_, rfl, BentT.own (j := 4) (M8.off OO (fun y hy hm => by have := hcs2 y hy; simp at hm; omega)) HYL.out yrows.out (fun y hy => by have := hcs2 y hy; omega) (by omega) (s5.off OO (fun y hy => by simp at hy; omega)) (O5.fresh OO (by simp))⟩
          clear M8 s5 O5
          go_wp2
          exact bodyPost_ret (v := .agg #[.slice (some ⟨g, 0, none⟩) 4 c]) (by simp [results, Tryz.results67, go_sem, ya]) rfl (OO _ ((Off.refl _ _).setCell _ _ (by simp)))
        · rw [if_pos (by rfl)]
          go_simp
          go_at_call 56
          refine (spec_l1Pick b a cap zs _ _ [0, 256, -1] [w2.heap.size] _ (sd.alloc _) (by omega) (Ints.lit w2.drew _ _ 3 rfl rfl (by omega)) (by simp) (by simp) (by simp; omega)).mono ?_
          rintro e w3 ⟨r2, rfl, hr2, s3, o3⟩
          have M3 := (Md.alloc (.cells #[.int .i64 0, .int .i64 256, .int .i64 (-1)] 2)).off o3 (by simp; omega)
          have Y3 := (Y2.drew.alloc (.cells #[.int .i64 0, .int .i64 256, .int .i64 (-1)] 2)).off o3 (by simp; omega)
          have hM3 := ((hM2.keep (Below.refl _ _).drew).alloc (.cells #[.int .i64 0, .int .i64 256, .int .i64 (-1)] 2)).off o3 (fun y hy hm => by have := hbw y hy; simp at hm; omega)
          have O3w : Off [b] w w3 := (O2.drew.alloc (.cells #[.int .i64 0, .int .i64 256, .int .i64 (-1)] 2)).trans o3
          have ltg1 : g < (w2.drew.alloc (.cells #[.int .i64 0, .int .i64 256, .int .i64 (-1)] 2)).heap.size := by simp; exact Nat.lt_succ_of_lt ltg
          have c3 : w3.cell? ⟨g, 2, none⟩ = some (.slice pr row.length cr) := ((o3.at g ltg1 (by simp; omega)).1 2).trans ((((Below.refl w2.drew.heap.size w2.drew).alloc (Nat.le_refl _) (.cells #[.int .i64 0, .int .i64 256, .int .i64 (-1)] 2)).cell (p := ⟨g, 2, none⟩) ltg).trans c0)
          have lg3 : g < w3.heap.size := Nat.lt_of_lt_of_le ltg1 o3.size
          have l23 : w2.heap.size < w3.heap.size := by have := o3.size; simp at this; exact this
          dsimp only
          refine hK.out _ _ M3.at.1 (fun hS => ?_)
          clear hK K
          (try simp only [List.getElem_toArray]); (try simp only [List.getElem_cons_succ]); (try simp only [List.getElem_cons_zero]); (try simp only [Act.put]); (try simp only [List.setIfInBounds_toArray]); (try simp only [List.set_cons_succ]); (try simp only [List.set_cons_zero])
          refine wpAnyH_ready (rs := [5, 9]) (by kernel_rfl) (by simp) ?_
          refine AllReadyH.cons (o := _) rfl (fun K hK => ?_) (AllReadyH.cons (o := _) rfl (fun K hK => ?_) AllReadyH.nil)
          · rw [if_pos (by rfl)]
            go_simp
            refine hK.out _ _ hS (fun hS => ?_)
            clear hK K
            (try simp only [List.getElem_toArray]); (try simp only [List.getElem_cons_succ]); (try simp only [List.getElem_cons_zero]); (try simp only [Act.put]); (try simp only [List.setIfInBounds_toArray]); (try simp only [List.set_cons_succ]); (try simp only [List.set_cons_zero])
            refine wpAnyH_ready (rs := [9]) (by kernel_rfl) (by simp) ?_
            refine AllReadyH.cons (o := _) rfl (fun K hK => ?_) AllReadyH.nil
            rw [if_pos (by rfl)]
            go_simp
            refine hK.out _ _ (M3.alloc (.cells #[.int .i64 r2] 2)).at.1 (fun hS => ?_)
            clear hK K
            (try simp only [List.getElem_toArray]); (try simp only [List.getElem_cons_succ]); (try simp only [List.getElem_cons_zero]); (try simp only [Act.put]); (try simp only [List.setIfInBounds_toArray]); (try simp only [List.set_cons_succ]); (try simp only [List.set_cons_zero])
            have c4 : (w3.alloc (.cells #[.int .i64 r2] 2)).cell? ⟨g, 2, none⟩ = some (.slice pr row.length cr) := (((Below.refl w3.heap.size w3).alloc (Nat.le_refl _) (.cells #[.int .i64 r2] 2)).cell (p := ⟨g, 2, none⟩) lg3).trans c3
            refine wpAnyH_ready (rs := [10]) (by kernel_rfl) (by simp) ?_
            refine AllReadyH.cons (o := _) rfl (fun K hK => ?_) AllReadyH.nil
            obtain ⟨vr', bu, Iu, cu, fu, nHu, ginu, binu, AFTER⟩ := hM3.grow 2 (by rw [HL.out]; omega)
            obtain rfl : vr' = .slice pr row.length cr := Option.some.inj (cu.symm.trans c3)
            rw [HW.out] at Iu
            refine step_append_Own rfl (.tmp 21) (.tmp 25) 27 rfl 2 i1 (.int .i64 0) 1 8 Tryz.underlying27 gi gz0 gz1 gz2 rfl (by decide) (.slice pr row.length cr) row.length (row.map (Value.int .i64)) bu rfl (Own.alloc Iu _) ⟨w3.heap.size, 0, none⟩ 1 1 [.int .i64 r2] rfl rfl (one_new (Blk.new w3 2 #[.int .i64 r2])) (by intro y hy; simp at hy; subst hy; rfl) (by omega) (by unfold maxLen; omega) (by omega) ?_
            intro g2 cap2 w4 hO4 hF4 hg4
            have nuM : bM ∉ bu := fun hm => by have := hbm _ (binu _ hm); omega
            have nuw : w.heap.size ∉ bu := fun hm => by have := hbw _ (binu _ hm); omega
            have nub : b ∉ bu := fun hm => by have := hbw _ (binu _ hm); omega
            have M4 := (M3.alloc (.cells #[.int .i64 r2] 2)).off hF4 nuM
            have ltH2 : g < (w3.alloc (.cells #[.int .i64 r2] 2)).heap.size := by simp; exact Nat.lt_succ_of_lt lg3
            have c5 : w4.cell? ⟨g, 2, none⟩ = some (.slice pr row.length cr) := ((hF4.at g ltH2 nHu).1 2).trans ((((Below.refl w3.heap.size w3).alloc (Nat.le_refl _) (.cells #[.int .i64 r2] 2)).cell (p := ⟨g, 2, none⟩) lg3).trans c3)
            have f5 : w4.frozen? ⟨g, 2, none⟩ = false := ((hF4.at g ltH2 nHu).2 2).trans ((((Below.refl w3.heap.size w3).alloc (Nat.le_refl _) (.cells #[.int .i64 r2] 2)).frozen (p := ⟨g, 2, none⟩) lg3).trans fu)
            refine hK.out _ _ M4.at.1 (fun hS => ?_)
            clear hK K
            (try simp only [List.getElem_toArray]); (try simp only [List.getElem_cons_succ]); (try simp only [List.getElem_cons_zero]); (try simp only [Act.put]); (try simp only [List.setIfInBounds_toArray]); (try simp only [List.set_cons_succ]); (try simp only [List.set_cons_zero])
            refine wpAnyH_take (i := 11) (v := .pointer (some ⟨g, 2, none⟩)) rfl (by kernel_rfl) (by kernel_rfl) (by kernel_rfl) (fun _ _ _ h => h) (Or.inl ⟨by rfl, ?_⟩) hS ?_
            · intro w' hSw
              go_simp
            (try simp only [List.getElem_toArray]); (try simp only [List.getElem_cons_succ]); (try simp only [List.getElem_cons_zero]); (try simp only [Act.put]); (try simp only [List.setIfInBounds_toArray]); (try simp only [List.set_cons_succ]); (try simp only [List.set_cons_zero])
            refine wpAnyH_ready (rs := [12]) (by kernel_rfl) (by simp) ?_
            refine AllReadyH.cons (o := _) rfl (fun K hK => ?_) AllReadyH.nil
            rw [if_pos (by rfl)]
            go_simp
            have oF : Off bu w3 w4 := ((Off.refl bu w3).alloc (.cells #[.int .i64 r2] 2)).trans hF4
            have M5 := M4.setOther ⟨g, 2, none⟩ (.slice (some ⟨g2, 0, none⟩) (row.length + 1) cap2) (by simp; omega)
            refine hK.out _ _ M5.at.1 (fun hS => ?_)
            clear hK K
            refine wpAnyH_done (by kernel_rfl) ?_ _
            obtain ⟨cs, M8, hcs⟩ := AFTER w4 (.slice (some ⟨g2, 0, none⟩) (row.length + 1) cap2) (row ++ [r2]) g2 oF (by unfold IntsT; simpa using hO4) (hg4.imp id (fun h => by (try simp at h); omega))
            have hcs2 : ∀ y ∈ cs, w.heap.size < y := fun y hy => (hcs y hy).elim (fun h => hbw y h) (fun e => by rw [e]; exact hg4.elim (fun h => hbw g2 (binu g2 (by rw [h]; simp))) (fun h => by have := Y3.lt; (try simp at h); omega))
            have oG : Off bs w3 (w4.setCell ⟨g, 2, none⟩ (.slice (some ⟨g2, 0, none⟩) (row.length + 1) cap2)) := (oF.mono binu).setCell _ _ (.inl ginu)
            have Y5 := Y3.off oG (fun hm => by have := hbw _ hm; omega)
            have s5 := s3.off oG (fun y hy => by have := hbw y hy; omega)
            have O5 := O3w.fresh oG (fun y hy => Nat.le_of_lt (hbw y hy))
            generalize w4.setCell ⟨g, 2, none⟩ (.slice (some ⟨g2, 0, none⟩) (row.length + 1) cap2) = w5 at *
            have yl4 : (xs.set 2 (row ++ [r2])).length = 4 := by rw [List.length_set]; exact HL.out
            have HYL : Hid ((xs.set 2 (row ++ [r2])).length = 4) := yl4
            have yrows := (show Hid _ from rows_set (xs := xs) (fun j => by have := HR.out j; omega) 2 (show (row ++ [r2]).length ≤ 901 by rw [List.length_append]; show row.length + 1 ≤ 901; omega))
            clear yl4 hM2 hM3 M2 Md M3 M4 Y2 Y3 s2 sd s3 O2 O3w oF oG hO4 hF4 hg4 c0 c3 c5 f5 It Iu ct cu ft fu hS
            generalize xs.set 2 (row ++ [r2]) = ys at *
            have ma := M5.at.1
            have mb := M5.at.2
            have ya := Y5.at.1
            have yb := Y5.at.2
            have yl := Y5.lt
            have ml := M5.lt
            have OO : ∀ W, Off [w.heap.size] w5 W → (∃ u, Ending.returned (.agg #[.slice (some ⟨g, 0, none⟩) 4 c]) = .returned u ∧ BentT w b a cap zs k u W) := fun W OO => ⟨_, rfl, BentT.own (j := 4) (M8.off OO (fun y hy hm => by have := hcs2 y hy; simp at hm; omega)) HYL.out yrows.out (fun y hy => by have := hcs2 y hy; omega) (by omega) (s5.off OO (fun y hy => by simp at hy; omega)) (O5.fresh OO (by simp))⟩
            clear M8 s5 O5
            go_wp2
            exact bodyPost_ret (v := .agg #[.slice (some ⟨g, 0, none⟩) 4 c]) (by simp [results, Tryz.results67, go_sem, ya]) rfl (OO _ ((Off.refl _ _).setCell _ _ (by simp)))
          · rw [if_pos (by rfl)]
            go_simp
            refine hK.out _ _ (M3.alloc (.cells #[.int .i64 r2] 2)).at.1 (fun hS => ?_)
            clear hK K
            (try simp only [List.getElem_toArray]); (try simp only [List.getElem_cons_succ]); (try simp only [List.getElem_cons_zero]); (try simp only [Act.put]); (try simp only [List.setIfInBounds_toArray]); (try simp only [List.set_cons_succ]); (try simp only [List.set_cons_zero])
            have c4 : (w3.alloc (.cells #[.int .i64 r2] 2)).cell? ⟨g, 2, none⟩ = some (.slice pr row.length cr) := (((Below.refl w3.heap.size w3).alloc (Nat.le_refl _) (.cells #[.int .i64 r2] 2)).cell (p := ⟨g, 2, none⟩) lg3).trans c3
            refine wpAnyH_ready (rs := [5]) (by kernel_rfl) (by simp) ?_
            refine AllReadyH.cons (o := _) rfl (fun K hK => ?_) AllReadyH.nil
            rw [if_pos (by rfl)]
            go_simp
            refine hK.out _ _ hS (fun hS => ?_)
            clear hK K
            (try simp only [List.getElem_toArray]); (try simp only [List.getElem_cons_succ]); (try simp only [List.getElem_cons_zero]); (try simp only [Act.put]); (try simp only [List.setIfInBounds_toArray]); (try simp only [List.set_cons_succ]); (try simp only [List.set_cons_zero])
            refine wpAnyH_ready (rs := [10]) (by kernel_rfl) (by simp) ?_
            refine AllReadyH.cons (o := _) rfl (fun K hK => ?_) AllReadyH.nil
            obtain ⟨vr', bu, Iu, cu, fu, nHu, ginu, binu, AFTER⟩ := hM3.grow 2 (by rw [HL.out]; omega)
            obtain rfl : vr' = .slice pr row.length cr := Option.some.inj (cu.symm.trans c3)
            rw [HW.out] at Iu
            refine step_append_Own rfl (.tmp 21) (.tmp 25) 27 rfl 2 i1 (.int .i64 0) 1 8 Tryz.underlying27 gi gz0 gz1 gz2 rfl (by decide) (.slice pr row.length cr) row.length (row.map (Value.int .i64)) bu rfl (Own.alloc Iu _) ⟨w3.heap.size, 0, none⟩ 1 1 [.int .i64 r2] rfl rfl (one_new (Blk.new w3 2 #[.int .i64 r2])) (by intro y hy; simp at hy; subst hy; rfl) (by omega) (by unfold maxLen; omega) (by omega) ?_
            intro g2 cap2 w4 hO4 hF4 hg4
            have nuM : bM ∉ bu := fun hm => by have := hbm _ (binu _ hm); omega
            have nuw : w.heap.size ∉ bu := fun hm => by have := hbw _ (binu _ hm); omega
            have nub : b ∉ bu := fun hm => by have := hbw _ (binu _ hm); omega
            have M4 := (M3.alloc (.cells #[.int .i64 r2] 2)).off hF4 nuM
            have ltH2 : g < (w3.alloc (.cells #[.int .i64 r2] 2)).heap.size := by simp; exact Nat.lt_succ_of_lt lg3
            have c5 : w4.cell? ⟨g, 2, none⟩ = some (.slice pr row.length cr) := ((hF4.at g ltH2 nHu).1 2).trans ((((Below.refl w3.heap.size w3).alloc (Nat.le_refl _) (.cells #[.int .i64 r2] 2)).cell (p := ⟨g, 2, none⟩) lg3).trans c3)
            have f5 : w4.frozen? ⟨g, 2, none⟩ = false := ((hF4.at g ltH2 nHu).2 2).trans ((((Below.refl w3.heap.size w3).alloc (Nat.le_refl _) (.cells #[.int .i64 r2] 2)).frozen (p := ⟨g, 2, none⟩) lg3).trans fu)
            refine hK.out _ _ M4.at.1 (fun hS => ?_)
            clear hK K
            (try simp only [List.getElem_toArray]); (try simp only [List.getElem_cons_succ]); (try simp only [List.getElem_cons_zero]); (try simp only [Act.put]); (try simp only [List.setIfInBounds_toArray]); (try simp only [List.set_cons_succ]); (try simp only [List.set_cons_zero])
            refine wpAnyH_take (i := 11) (v := .pointer (some ⟨g, 2, none⟩)) rfl (by kernel_rfl) (by kernel_rfl) (by kernel_rfl) (fun _ _ _ h => h) (Or.inl ⟨by rfl, ?_⟩) hS ?_
            · intro w' hSw
              go_simp
            (try simp only [List.getElem_toArray]); (try simp only [List.getElem_cons_succ]); (try simp only [List.getElem_cons_zero]); (try simp only [Act.put]); (try simp only [List.setIfInBounds_toArray]); (try simp only [List.set_cons_succ]); (try simp only [List.set_cons_zero])
            refine wpAnyH_ready (rs := [12]) (by kernel_rfl) (by simp) ?_
            refine AllReadyH.cons (o := _) rfl (fun K hK => ?_) AllReadyH.nil
            rw [if_pos (by rfl)]
            go_simp
            have oF : Off bu w3 w4 := ((Off.refl bu w3).alloc (.cells #[.int .i64 r2] 2)).trans hF4
            have M5 := M4.setOther ⟨g, 2, none⟩ (.slice (some ⟨g2, 0, none⟩) (row.length + 1) cap2) (by simp; omega)
            refine hK.out _ _ M5.at.1 (fun hS => ?_)
            clear hK K
            refine wpAnyH_done (by kernel_rfl) ?_ _
            obtain ⟨cs, M8, hcs⟩ := AFTER w4 (.slice (some ⟨g2, 0, none⟩) (row.length + 1) cap2) (row ++ [r2]) g2 oF (by unfold IntsT; simpa using hO4) (hg4.imp id (fun h => by (try simp at h); omega))
            have hcs2 : ∀ y ∈ cs, w.heap.size < y := fun y hy => (hcs y hy).elim (fun h => hbw y h) (fun e => by rw [e]; exact hg4.elim (fun h => hbw g2 (binu g2 (by rw [h]; simp))) (fun h => by have := Y3.lt; (try simp at h); omega))
            have oG : Off bs w3 (w4.setCell ⟨g, 2, none⟩ (.slice (some ⟨g2, 0, none⟩) (row.length + 1) cap2)) := (oF.mono binu).setCell _ _ (.inl ginu)
            have Y5 := Y3.off oG (fun hm => by have := hbw _ hm; omega)
            have s5 := s3.off oG (fun y hy => by have := hbw y hy; omega)
            have O5 := O3w.fresh oG (fun y hy => Nat.le_of_lt (hbw y hy))
            generalize w4.setCell ⟨g, 2, none⟩ (.slice (some ⟨g2, 0, none⟩) (row.length + 1) cap2) = w5 at *
            have yl4 : (xs.set 2 (row ++ [r2])).length = 4 := by rw [List.length_set]; exact HL.out
            have HYL : Hid ((xs.set 2 (row ++ [r2])).length = 4) := yl4
            have yrows := (show Hid _ from rows_set (xs := xs) (fun j => by have := HR.out j; omega) 2 (show (row ++ [r2]).length ≤ 901 by rw [List.length_append]; show row.length + 1 ≤ 901; omega))
            clear yl4 hM2 hM3 M2 Md M3 M4 Y2 Y3 s2 sd s3 O2 O3w oF oG hO4 hF4 hg4 c0 c3 c5 f5 It Iu ct cu ft fu hS
            generalize xs.set 2 (row ++ [r2]) = ys at *
            have ma := M5.at.1
            have mb := M5.at.2
            have ya := Y5.at.1
            have yb := Y5.at.2
            have yl := Y5.lt
            have ml := M5.lt
            have OO : ∀ W, Off [w.heap.size] w5 W → (∃ u, Ending.returned (.agg #[.slice (some ⟨g, 0, none⟩) 4 c]) = .returned u ∧ BentT w b a cap zs k u W) := fun W OO => ⟨_, rfl, BentT.own (j := 4) (M8.off OO (fun y hy hm => by have := hcs2 y hy; simp at hm; omega)) HYL.out yrows.out (fun y hy => by have := hcs2 y hy; omega) (by omega) (s5.off OO (fun y hy => by simp at hy; omega)) (O5.fresh OO (by simp))⟩
            clear M8 s5 O5
            go_wp2
            exact bodyPost_ret (v := .agg #[.slice (some ⟨g, 0, none⟩) 4 c]) (by simp [results, Tryz.results67, go_sem, ya]) rfl (OO _ ((Off.refl _ _).setCell _ _ (by simp)))
    · have e1 : (r == 1) = false := by simpa using h1
      clear h1
      by_cases h2 : r = 2
      · have e2 : (r == 2) = true := by simpa using h2
        clear h2
        have hmr := run_make_row' (P := Tryz.prog) 27 2 (.int .i64 0) 8 Tryz.underlying27 Tryz.infoI rfl .i64 .i64 901 (by omega) (by omega)
        obtain ⟨cs9, hcs9⟩ : ∃ cs9, cs9 = madeCells #[.int .i64 0] 901 := ⟨_, rfl⟩
        have hsz9 : cs9.size = 901 * 1 := by rw [hcs9, size_madeCells, Nat.mul_one]
        have htl9 : cs9.toList = (List.replicate 901 (0 : Int)).map (Value.int .i64) := by rw [hcs9, toList_madeCells_one, List.map_replicate]
        rw [← hcs9] at hmr
        clear hcs9
        have hmk : ∀ w, (Instr.makeSlice 27 (.int .i64 901) (.int .i64 901)).run Tryz.prog w = .ok (.slice (some ⟨w.heap.size, 0, none⟩) 901 901) (w.alloc (.cells cs9 2)) := fun w => hmr w
        clear hmr
        obtain ⟨vr, bt, It, ct, ft, nHt, gin, bin, AFTER⟩ := hM2.grow 1 (by rw [HL.out]; omega)
        have HA9 := (show Hid _ from AFTER)
        clear AFTER
        have ma := M2.at.1
        go_wp2_with fail
        clear ma
        have Md := M2.drew
        have ltg : g < w2.heap.size := by omega
        have B9 := (Below.refl w2.heap.size w2).drew.alloc (Nat.le_refl _) (.cells cs9 2)
        have c1 : (w2.drew.alloc (.cells cs9 2)).cell? ⟨g, 1, none⟩ = some vr := (B9.cell (p := ⟨g, 1, none⟩) ltg).trans ct
        have f1 : (w2.drew.alloc (.cells cs9 2)).frozen? ⟨g, 1, none⟩ = false := (B9.frozen (p := ⟨g, 1, none⟩) ltg).trans ft
        have eW : (w2.drew.alloc (.cells cs9 2)).setCell ⟨g, 1, none⟩ (.slice (some ⟨w2.heap.size, 0, none⟩) 901 901) = ((w2.setCell ⟨g, 1, none⟩ (.slice (some ⟨w2.heap.size, 0, none⟩) 901 901)).alloc (.cells cs9 2)).drew := by rw [World.alloc_drew, World.setCell_drew, World.setCell_alloc_past _ _ _ _ ltg]
        have M9 := (Md.alloc (.cells cs9 2)).setOther ⟨g, 1, none⟩ (.slice (some ⟨w2.heap.size, 0, none⟩) 901 901) (by simp; omega)
        have EWH : Hid _ := eW
        clear eW
        rw [EWH.out] at M9
        go_region_held3 (fun V => (∀ o, V.cell? ⟨bM, o, none⟩ = (#[.slice (some ⟨g, 0, none⟩) 4 c] : Array Value)[o]?)) (first | exact Md.at.1 | exact (Md.alloc _).at.1 | exact M9.at.1) (fail)
        have I9 : IntsT (w2.drew.alloc (.cells cs9 2)) (.slice (some ⟨w2.heap.size, 0, none⟩) 901 901) (List.replicate 901 0) [w2.heap.size] := by
          have := Own.made w2.drew 2 1 cs9 901 (by decide) hsz9
          unfold IntsT
          rw [List.length_replicate, ← htl9]
          exact this
        obtain ⟨cs, M8, hcs⟩ := HA9.out (w2.drew.alloc (.cells cs9 2)) (.slice (some ⟨w2.heap.size, 0, none⟩) 901 901) (List.replicate 901 0) w2.heap.size (Off.ofBelow B9) I9 (.inr (Nat.le_refl _))
        have hcs2 : ∀ y ∈ cs, w.heap.size < y := fun y hy => (hcs y hy).elim (fun h => hbw y h) (fun e => by rw [e]; exact Y2.lt)
        rw [EWH.out] at M8
        have oG : Off bs w2 ((w2.drew.alloc (.cells cs9 2)).setCell ⟨g, 1, none⟩ (.slice (some ⟨w2.heap.size, 0, none⟩) 901 901)) := (Off.ofBelow B9).setCell _ _ (.inl gin)
        rw [EWH.out] at oG
        have Y5 := Y2.off oG (fun hm => by have := hbw _ hm; omega)
        have s5 := s2.off oG (fun y hy => by have := hbw y hy; omega)
        have O5 := O2.fresh oG (fun y hy => Nat.le_of_lt (hbw y hy))
        clear EWH
        generalize ((w2.setCell ⟨g, 1, none⟩ (.slice (some ⟨w2.heap.size, 0, none⟩) 901 901)).alloc (.cells cs9 2)).drew = w5 at *
        have HYL : Hid ((xs.set 1 (List.replicate 901 0)).length = 4) := by show _ = _; rw [List.length_set]; exact HL.out
        have yrows := (show Hid _ from rows_set (xs := xs) (fun j => by have := HR.out j; omega) 1 (show (List.replicate 901 (0 : Int)).length ≤ 901 by rw [List.length_replicate]; omega))
        clear hM2 M2 Md Y2 s2 O2 oG It ct ft c1 f1 B9 I9 hmk hsz9 htl9 HA9
        generalize xs.set 1 (List.replicate 901 0) = ys at *
        have ma := M9.at.1
        have mb := M9.at.2
        have ya := Y5.at.1
        have yb := Y5.at.2
        have yl := Y5.lt
        have ml := M9.lt
        have OO : ∀ W, Off [w.heap.size] w5 W → (∃ u, Ending.returned (.agg #[.slice (some ⟨g, 0, none⟩) 4 c]) = .returned u ∧ BentT w b a cap zs k u W) := fun W OO => ⟨_, rfl, BentT.own (j := 3) (M8.off OO (fun y hy hm => by have := hcs2 y hy; simp at hm; omega)) HYL.out yrows.out (fun y hy => by have := hcs2 y hy; omega) (by omega) (s5.off OO (fun y hy => by simp at hy; omega)) (O5.fresh OO (by simp))⟩
        clear M8 s5 O5
        go_wp2
        exact bodyPost_ret (v := .agg #[.slice (some ⟨g, 0, none⟩) 4 c]) (by simp [results, Tryz.results67, go_sem, ya]) rfl (OO _ ((Off.refl _ _).setCell _ _ (by simp)))
      · have e2 : (r == 2) = false := by simpa using h2
        clear h2
        have ma := M2.at.1
        have mb := M2.at.2
        have ya := Y2.at.1
        have yb := Y2.at.2
        have yl := Y2.lt
        have ml := M2.lt
        have OO : ∀ W, Off [w.heap.size] w2 W → (∃ u, Ending.returned (.agg #[.slice (some ⟨g, 0, none⟩) 4 c]) = .returned u ∧ BentT w b a cap zs k u W) := fun W OO => ⟨_, rfl, BentT.own (j := 3) (hM2.off OO (fun y hy hm => by have := hbw y hy; simp at hm; omega)) HL.out (fun j => by have := HR.out j; omega) (fun y hy => by have := hbw y hy; omega) (by omega) (s2.off OO (fun y hy => by simp at hy; omega)) (O2.fresh OO (by simp))⟩
        clear hM2 s2 O2
        go_wp2
        exact bodyPost_ret (v := .agg #[.slice (some ⟨g, 0, none⟩) 4 c]) (by simp [results, Tryz.results67, go_sem, ya]) rfl (OO _ ((Off.refl _ _).setCell _ _ (by simp)))
end Go.Proofs.YtepobckhfodngabGreat
