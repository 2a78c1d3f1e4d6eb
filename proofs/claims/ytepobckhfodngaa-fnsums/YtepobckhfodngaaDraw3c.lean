/-
  Contracts of what the laws draw for chapter 3: mirrors, and mirrors with a fault now and then.
-/
import Derived.Test.YtepobckhfodngaaDraw3b
namespace Go.Proofs.Ytepobckhfodngaa
open Go.ChangeShapes Go.WideShapes Go.ChangeAt Go.RowKit
set_option linter.unusedVariables false

set_option maxHeartbeats 4000000 in
set_option maxRecDepth 100000 in
theorem spec_DrawIsAlike (a : Option Addr) (cap : Nat) (zs : List Int) (w : World) (hr : Reads w .u8 (.slice a zs.length cap) zs) (hl : zs.length ≤ 1048576) (hb : ∀ i, 0 ≤ zs.getD i 0 ∧ zs.getD i 0 ≤ 255) :
    Calls Try.prog 109 #[.slice a zs.length cap] w fun e w' => ∃ (u : Value) (x : MMirror) (but : Int), e = .returned (.tuple #[u, .int .i64 but]) ∧ (∀ W cs, Off cs w' W → (∀ z ∈ cs, z < w.heap.size) → RdMirror W u x) ∧ Below w.heap.size w w' := by
  have Y0 := Blk.new w 59 #[.int .i64 0, .slice none 0 0]
  have B0 : Below w.heap.size w (w.alloc (.cells #[.int .i64 0, .slice none 0 0] 59)) := (by repeat (first | exact Below.refl _ _ | refine Below.drew ?_ | refine below_drewN ?_ _ | refine Below.setCell ?_ (by first | omega | (simp; done) | (simp; omega)) _ | refine Below.alloc ?_ (by first | omega | (simp; done) | (simp; omega)) _))
  have hbz : (w.alloc (.cells #[.int .i64 0, .slice none 0 0] 59)).heap.size = w.heap.size + 1 := by simp
  have hr0 := hr.below B0
  clear hr
  go_enter Try.func109, Try.ntmps109
  go_wp2_with fail
  refine (spec_l1Source a cap zs _ hr0 hl hb).mono ?_
  rintro e w1 ⟨rfl, s1, hb1⟩
  rw [hbz] at s1 ⊢
  have Y1 := Y0.keep hb1
  have B1 := B0.trans (hb1.mono B0.size)
  have yl1 := Y1.lt
  obtain ⟨b, hbb⟩ : ∃ n, n = w.heap.size + 1 := ⟨_, rfl⟩
  rw [← hbb] at s1 ⊢
  have hbw : w.heap.size < b := by omega
  clear Y0 B0 hb1 hr0 hb hbb hbz
  go_wp2_with fail
  refine (spec_l3Q b a cap zs _ _ s1 (by omega)).mono ?_
  rintro e w2 ⟨q, rfl, hq, s2, o2⟩
  have hq2 : q ≤ 256 := by rcases hq with h | h <;> omega
  have Y2 := Y1.off o2 (by simp; omega)
  have B2 := B1.trans (o2.toBelow B1.size (by simp; omega))
  have zb2 := s2.blk.lt
  have yl2 := Y2.lt
  clear Y1 B1 o2 s1 hq
  go_wp2_with fail
  refine (spec_l3Bent b a cap zs _ q _ s2 (by omega) hq2).mono ?_
  rintro e w3 ⟨u, rfl, x, hRS, hOwn, ⟨j, hj, s3⟩, o3⟩
  obtain ⟨p, c, hu, hrd⟩ := hRS w3 [] (Off.refl _ _) (fun z hz => by cases hz)
  subst hu
  have Y3 := Y2.off o3 (by simp; omega)
  have B3 := B2.trans (o3.toBelow B2.size (by simp; omega))
  have z3 := o3.size
  obtain ⟨Q, hQ⟩ : ∃ n, n = x.xQ := ⟨_, rfl⟩
  obtain ⟨n, hn⟩ : ∃ n, n = x.xViews.length := ⟨_, rfl⟩
  have HRS : Hid (∀ W cs, Off cs w3 W → (∀ z ∈ cs, z < w2.heap.size) → RdMirror W (.agg #[.int .i64 Q, .slice p n c]) x) := by rw [hQ, hn]; exact hRS
  have HOW : Hid (n = 4 → (x.xViews.getD 1 []).length = 4 → ∃ bs, Mat w3 (.slice p n c) x.xViews bs ∧ Sq x.xViews ∧ ∀ y ∈ bs, w2.heap.size ≤ y) := fun h1 h2 => by
    rw [hn] at h1
    obtain ⟨bs, ⟨p', c', e, hM⟩, hs, hf⟩ := hOwn h1 h2
    simp at e
    obtain ⟨rfl, rfl⟩ := e
    exact ⟨bs, by rw [hn]; exact hM, hs, hf⟩
  have hnm : n ≤ maxLen := by rw [hn]; obtain ⟨_, _, _, h, _⟩ := hrd; exact h
  unfold maxLen at hnm
  rw [← hn] at hrd
  rw [← hQ, ← hn]
  have HRD0 : Hid (ReadsM w3 (.slice p n c) x.xViews) := hrd
  have HN : Hid (n = x.xViews.length) := hn
  clear hRS hOwn hrd hn hQ Y2 B2 s2
  have M3 := Blk.new w3 59 #[.int .i64 Q, .slice p n c]
  replace Y3 := Y3.alloc (.cells #[.int .i64 Q, .slice p n c] 59)
  have s3' := s3.alloc (.cells #[.int .i64 Q, .slice p n c] 59)
  have B3' := B3.alloc B3.size (.cells #[.int .i64 Q, .slice p n c] 59)
  have zb3 := s3.blk.lt
  go_wp2_with fail
  generalize hgM : w3.heap.size = bM at *
  have HGM : Hid (w3.heap.size = bM) := hgM
  clear hgM
  refine (spec_l1Chance b a cap zs _ 3 _ s3' (by omega) (by omega)).mono ?_
  rintro e w4 ⟨r, rfl, s4, o4⟩
  have Y4 := Y3.off o4 (by simp; omega)
  have M4 := M3.off o4 (by simp; omega)
  have B4 := B3'.trans (o4.toBelow B3'.size (by simp; omega))
  have O4 : Off [b] w3 w4 := ((Off.refl _ _).alloc _).trans o4
  have HRD : Hid (∀ V cs, Off cs w4 V → (∀ z ∈ cs, z ≤ b) → RdMirror V (.agg #[.int .i64 Q, .slice p n c]) x) := fun V cs o hc => HRS.out V ([b] ++ cs) ((O4.mono (fun y hy => List.mem_append_left _ hy)).trans (o.mono (fun y hy => List.mem_append_right _ hy))) (fun z hz => by rcases List.mem_append.1 hz with h | h; (simp at h; omega); (have := hc z h; omega))
  clear Y3 M3 B3 B3' s3 s3' o4 o3
  cases r
  · have ma := M4.at.1
    have KS : Hid (∀ V, Off [b, w.heap.size] w4 V → ∀ o, V.cell? ⟨bM, o, none⟩ = (#[.int .i64 Q, .slice p n c] : Array Value)[o]?) := fun V o => (M4.off o (by simp; omega)).at.1
    have o4 : Off [b, w.heap.size] w4 (w4).drew := (Off.refl _ _).drew
    have sd := s4.keep (Below.refl _ _).drew
    have zb4 := s4.blk.lt
    have yl4 := Y4.lt
    have Yd := Y4.drew
    go_wp2_with fail
    go_region_held3 (fun V => ∀ o, V.cell? ⟨bM, o, none⟩ = (#[.int .i64 Q, .slice p n c] : Array Value)[o]?) (first | exact KS.out _ o4 | exact KS.out _ (o4.alloc _) | exact KS.out _ o5 | exact KS.out _ ((o5.setCell _ _ (by simp)).setCell _ _ (by simp))) (first | (go_at_call 70; refine (spec_l1Pick b a cap zs _ _ [-1, 0, 1, 1, 2, 3, 4, -2] [(w4).heap.size] _ (by exact sd.alloc _) (by omega) (by exact Ints.lit (w4).drew _ [-1, 0, 1, 1, 2, 3, 4, -2] 8 rfl rfl (by omega)) (by simp) (by simp) (by simp; omega)).mono ?_; rintro e w5 ⟨but, rfl, hbut, s5, o5'⟩; have o5 := (o4.alloc _).trans (o5'.mono (fun y hy => by simp at hy ⊢; exact .inl hy)); have Y5 := (Yd.alloc _).off o5' (by simp; omega); have ya := Y5.at.1; have yb := Y5.at.2))
    have OO : ∀ V, Off [w.heap.size] w5 V → (∃ (u : Value) (x : MMirror) (but' : Int), Ending.returned (.tuple #[.agg #[.int .i64 Q, .slice p n c], .int .i64 but]) = .returned (.tuple #[u, .int .i64 but']) ∧ (∀ V' cs, Off cs V V' → (∀ z ∈ cs, z < w.heap.size) → RdMirror V' u x) ∧ Below w.heap.size w V) := fun V OO => ⟨_, _, but, rfl, fun V' cs o' hc => HRD.out V' ([b, w.heap.size] ++ cs) (((o5.trans (OO.mono (fun y hy => by simp at hy ⊢; exact .inr hy))).mono (fun y hy => List.mem_append_left _ hy)).trans (o'.mono (fun y hy => List.mem_append_right _ hy))) (fun z hz => by rcases List.mem_append.1 hz with h | h; (simp at h; omega); (have := hc z h; omega)), B4.trans ((o5.trans (OO.mono (fun y hy => by simp at hy ⊢; exact .inr hy))).toBelow B4.size (fun y hy => by simp at hy; omega))⟩
    clear s5 o5' Y5
    go_wp2
    exact bodyPost_ret (v := .tuple #[.agg #[.int .i64 Q, .slice p n c], .int .i64 but]) (by simp [results, Try.results109, go_sem, ya]) rfl (OO _ (((Off.refl _ _).setCell _ _ (by simp)).setCell _ _ (by simp)))
  · by_cases hn4 : n = 4
    · have HL : Hid (x.xViews.length = 4) := by show _ = _; rw [← HN.out]; exact hn4
      have hne4 : ((n : Int) == 4) = true := by simp; omega
      have hn1 : (1 : Int) < (n : Int) := by omega
      by_cases hr4 : (x.xViews.getD 1 []).length = 4
      · obtain ⟨bs, hM3, hsq, hf⟩ := HOW.out hn4 hr4
        have hM4 := hM3.off O4 (fun y hy hm => by have := hf y hy; simp at hm; omega)
        obtain ⟨g, c', gi, ci, hv, c1, -, hgb, hgi, hgig, -, hce, hset⟩ := hM4.row 1 (by rw [HL.out]; omega) (by rw [hr4]; omega)
        simp only [Value.slice.injEq] at hv
        obtain ⟨rfl, h4q, rfl⟩ := hv
        clear h4q
        rw [hr4] at c1 hce
        subst hn4
        obtain ⟨c2, f2⟩ := hce 2 (by omega)
        have hgl := hM4.lt g hgb
        have hgil := hM4.lt gi hgi
        have hgw := hf g hgb
        have hgiw := hf gi hgi
        have zM4 := M4.lt
        have hgm : g < bM := by rw [← HGM.out]; exact hM3.lt g hgb
        have hgim : gi < bM := by rw [← HGM.out]; exact hM3.lt gi hgi
        have HSET := hide hset
        have KS : Hid (∀ V, Off [b] w4 V → (∀ o, V.cell? ⟨bM, o, none⟩ = (#[.int .i64 Q, .slice (some ⟨g, 0, none⟩) 4 c] : Array Value)[o]?) ∧ V.cell? ⟨g, 1, none⟩ = some (.slice (some ⟨gi, 0, none⟩) 4 ci)) := fun V o => ⟨(M4.off o (by simp; omega)).at.1, ((o.at g hgl (by simp; omega)).1 1).trans c1⟩
        have o4 : Off [b] w4 w4.drew := (Off.refl _ _).drew
        have sd := s4.keep (Below.refl _ _).drew
        have ma := M4.at.1
        clear hset hce
        go_wp2_with fail
        clear ma
        go_region_held3 (fun V => (∀ o, V.cell? ⟨bM, o, none⟩ = (#[.int .i64 Q, .slice (some ⟨g, 0, none⟩) 4 c] : Array Value)[o]?) ∧ V.cell? ⟨g, 1, none⟩ = some (.slice (some ⟨gi, 0, none⟩) 4 ci)) (first | exact KS.out _ o4 | exact KS.out _ o5 | exact HSO.out _ ((Off.refl _ _).setCell _ _ (by simp))) (first | (go_at_call 71; refine (spec_l1Next b a cap zs _ 2 _ (by exact sd) (by omega) (by omega)).mono ?_; rintro e w5 ⟨r2, rfl, hr2, s5, o5'⟩; have o5 := o4.trans o5'; have c5 := ((o5.at gi hgil (by simp; omega)).1 2).trans c2; have f5 := ((o5.at gi hgil (by simp; omega)).2 2).trans f2; have HSO : Hid (∀ V, Off [gi] w5 V → (∀ o, V.cell? ⟨bM, o, none⟩ = (#[.int .i64 Q, .slice (some ⟨g, 0, none⟩) 4 c] : Array Value)[o]?) ∧ V.cell? ⟨g, 1, none⟩ = some (.slice (some ⟨gi, 0, none⟩) 4 ci)) := (fun V o => ⟨((M4.off o5 (by simp; omega)).off o (by simp; omega)).at.1, ((o.at g (Nat.lt_of_lt_of_le hgl o5.size) (by simpa using Ne.symm hgig)).1 1).trans (KS.out _ o5).2⟩); clear o5' hr2))
        have M6 := (M4.off o5 (by simp; omega)).setOther ⟨gi, 2, none⟩ (.int .i64 r2) (by simp; omega)
        have Y6 := (Y4.off o5 (by simp; omega)).setOther ⟨gi, 2, none⟩ (.int .i64 r2) (by simp; omega)
        have O6 : Off [gi] w5 (w5.setCell ⟨gi, 2, none⟩ (.int .i64 r2)) := (Off.refl _ _).setCell _ _ (by simp)
        have s6 := s5.off O6 (fun y hy => by simp at hy; omega)
        have B6 := (B4.trans (o5.toBelow B4.size (by simp; omega))).setCell (p := ⟨gi, 2, none⟩) (by simp; omega) (.int .i64 r2)
        have hM6 := HSET.out w5 [b] o5 (fun z hz hm => by have := hf z hz; simp at hm; omega) 2 r2
        have HR6 : Hid (∀ V cs, Off cs (w5.setCell ⟨gi, 2, none⟩ (.int .i64 r2)) V → (∀ z ∈ cs, z ≤ b) → RdMirror V (.agg #[.int .i64 Q, .slice (some ⟨g, 0, none⟩) 4 c]) ⟨Q, x.xViews.set 1 ((x.xViews.getD 1 []).set 2 r2)⟩) := fun V cs o hc => ⟨_, c, by dsimp only; rw [List.length_set, HL.out], by dsimp only; rw [List.length_set, HL.out]; exact (hM6.off o (fun z hz hm => by have := hf z hz; have := hc z hm; omega)).reads⟩
        clear M4 Y4 s4 B4 HRD hM4 hM3 hM6 O6 s5 o4 o5 c5 f5 c1 c2 f2 HSO KS sd
        obtain ⟨w4', hw4⟩ : ∃ y, y = w5.setCell ⟨gi, 2, none⟩ (.int .i64 r2) := ⟨_, rfl⟩
        rw [← hw4] at M6 Y6 s6 B6 HR6 ⊢
        clear hw4
        have M4 := M6
        have Y4 := Y6
        have s4 := s6
        have B4 := B6
        have HRD := HR6
        clear M6 Y6 s6 B6 HR6
        have ma := M4.at.1
        have KS : Hid (∀ V, Off [b, w.heap.size] w4' V → ∀ o, V.cell? ⟨bM, o, none⟩ = (#[.int .i64 Q, .slice (some ⟨g, 0, none⟩) 4 c] : Array Value)[o]?) := fun V o => (M4.off o (by simp; omega)).at.1
        have o4 : Off [b, w.heap.size] w4' (w4').drew := (Off.refl _ _).drew
        have sd := s4.keep (Below.refl _ _).drew
        have zb4 := s4.blk.lt
        have yl4 := Y4.lt
        have Yd := Y4.drew
        go_wp2_with fail
        go_region_held3 (fun V => ∀ o, V.cell? ⟨bM, o, none⟩ = (#[.int .i64 Q, .slice (some ⟨g, 0, none⟩) 4 c] : Array Value)[o]?) (first | exact KS.out _ o4 | exact KS.out _ (o4.alloc _) | exact KS.out _ o5 | exact KS.out _ ((o5.setCell _ _ (by simp)).setCell _ _ (by simp))) (first | (go_at_call 70; refine (spec_l1Pick b a cap zs _ _ [-1, 0, 1, 1, 2, 3, 4, -2] [(w4').heap.size] _ (by exact sd.alloc _) (by omega) (by exact Ints.lit (w4').drew _ [-1, 0, 1, 1, 2, 3, 4, -2] 8 rfl rfl (by omega)) (by simp) (by simp) (by simp; omega)).mono ?_; rintro e w5 ⟨but, rfl, hbut, s5, o5'⟩; have o5 := (o4.alloc _).trans (o5'.mono (fun y hy => by simp at hy ⊢; exact .inl hy)); have Y5 := (Yd.alloc _).off o5' (by simp; omega); have ya := Y5.at.1; have yb := Y5.at.2))
        have OO : ∀ V, Off [w.heap.size] w5 V → (∃ (u : Value) (x : MMirror) (but' : Int), Ending.returned (.tuple #[.agg #[.int .i64 Q, .slice (some ⟨g, 0, none⟩) 4 c], .int .i64 but]) = .returned (.tuple #[u, .int .i64 but']) ∧ (∀ V' cs, Off cs V V' → (∀ z ∈ cs, z < w.heap.size) → RdMirror V' u x) ∧ Below w.heap.size w V) := fun V OO => ⟨_, _, but, rfl, fun V' cs o' hc => HRD.out V' ([b, w.heap.size] ++ cs) (((o5.trans (OO.mono (fun y hy => by simp at hy ⊢; exact .inr hy))).mono (fun y hy => List.mem_append_left _ hy)).trans (o'.mono (fun y hy => List.mem_append_right _ hy))) (fun z hz => by rcases List.mem_append.1 hz with h | h; (simp at h; omega); (have := hc z h; omega)), B4.trans ((o5.trans (OO.mono (fun y hy => by simp at hy ⊢; exact .inr hy))).toBelow B4.size (fun y hy => by simp at hy; omega))⟩
        clear s5 o5' Y5
        go_wp2
        exact bodyPost_ret (v := .tuple #[.agg #[.int .i64 Q, .slice (some ⟨g, 0, none⟩) 4 c], .int .i64 but]) (by simp [results, Try.results109, go_sem, ya]) rfl (OO _ (((Off.refl _ _).setCell _ _ (by simp)).setCell _ _ (by simp)))
      · obtain ⟨p', c', e, hlane⟩ := HRD.out w4 [] (Off.refl _ _) (fun z hz => by cases hz)
        simp only [Value.agg.injEq, Array.mk.injEq, List.cons.injEq, Value.int.injEq, Value.slice.injEq, true_and, and_true] at e
        obtain ⟨-, rfl, -, rfl⟩ := e
        obtain ⟨g, off, p1, d1, rfl, hlt1, c1, -⟩ := hlane.lane 1 (by rw [HL.out]; omega)
        have hl1 : (x.xViews.getD 1 []).length ≤ maxLen := by obtain ⟨_, _, _, _, hA⟩ := hlane; obtain ⟨_, _, _, _, hB⟩ := hA (by intro e; have := HL.out; rw [e] at this; cases this); obtain ⟨_, _, _, hR⟩ := hB 1 (by rw [HL.out]; omega); exact hR.le
        unfold maxLen at hl1
        generalize (x.xViews.getD 1 []).length = n1 at *
        have hne1 : ((n1 : Int) == 4) = false := by simp; omega
        subst hn4
        have ma := M4.at.1
        clear hlane
        have KS : Hid (∀ V, Off [b, w.heap.size] w4 V → ∀ o, V.cell? ⟨bM, o, none⟩ = (#[.int .i64 Q, .slice (some ⟨g, off, none⟩) 4 c] : Array Value)[o]?) := fun V o => (M4.off o (by simp; omega)).at.1
        have o4 : Off [b, w.heap.size] w4 (w4).drew := (Off.refl _ _).drew
        have sd := s4.keep (Below.refl _ _).drew
        have zb4 := s4.blk.lt
        have yl4 := Y4.lt
        have Yd := Y4.drew
        go_wp2_with fail
        go_region_held3 (fun V => ∀ o, V.cell? ⟨bM, o, none⟩ = (#[.int .i64 Q, .slice (some ⟨g, off, none⟩) 4 c] : Array Value)[o]?) (first | exact KS.out _ o4 | exact KS.out _ (o4.alloc _) | exact KS.out _ o5 | exact KS.out _ ((o5.setCell _ _ (by simp)).setCell _ _ (by simp))) (first | (go_at_call 70; refine (spec_l1Pick b a cap zs _ _ [-1, 0, 1, 1, 2, 3, 4, -2] [(w4).heap.size] _ (by exact sd.alloc _) (by omega) (by exact Ints.lit (w4).drew _ [-1, 0, 1, 1, 2, 3, 4, -2] 8 rfl rfl (by omega)) (by simp) (by simp) (by simp; omega)).mono ?_; rintro e w5 ⟨but, rfl, hbut, s5, o5'⟩; have o5 := (o4.alloc _).trans (o5'.mono (fun y hy => by simp at hy ⊢; exact .inl hy)); have Y5 := (Yd.alloc _).off o5' (by simp; omega); have ya := Y5.at.1; have yb := Y5.at.2))
        have OO : ∀ V, Off [w.heap.size] w5 V → (∃ (u : Value) (x : MMirror) (but' : Int), Ending.returned (.tuple #[.agg #[.int .i64 Q, .slice (some ⟨g, off, none⟩) 4 c], .int .i64 but]) = .returned (.tuple #[u, .int .i64 but']) ∧ (∀ V' cs, Off cs V V' → (∀ z ∈ cs, z < w.heap.size) → RdMirror V' u x) ∧ Below w.heap.size w V) := fun V OO => ⟨_, _, but, rfl, fun V' cs o' hc => HRD.out V' ([b, w.heap.size] ++ cs) (((o5.trans (OO.mono (fun y hy => by simp at hy ⊢; exact .inr hy))).mono (fun y hy => List.mem_append_left _ hy)).trans (o'.mono (fun y hy => List.mem_append_right _ hy))) (fun z hz => by rcases List.mem_append.1 hz with h | h; (simp at h; omega); (have := hc z h; omega)), B4.trans ((o5.trans (OO.mono (fun y hy => by simp at hy ⊢; exact .inr hy))).toBelow B4.size (fun y hy => by simp at hy; omega))⟩
        clear s5 o5' Y5
        go_wp2
        exact bodyPost_ret (v := .tuple #[.agg #[.int .i64 Q, .slice (some ⟨g, off, none⟩) 4 c], .int .i64 but]) (by simp [results, Try.results109, go_sem, ya]) rfl (OO _ (((Off.refl _ _).setCell _ _ (by simp)).setCell _ _ (by simp)))
    · have hne4 : ((n : Int) == 4) = false := by simp; omega
      have ma := M4.at.1
      have KS : Hid (∀ V, Off [b, w.heap.size] w4 V → ∀ o, V.cell? ⟨bM, o, none⟩ = (#[.int .i64 Q, .slice p n c] : Array Value)[o]?) := fun V o => (M4.off o (by simp; omega)).at.1
      have o4 : Off [b, w.heap.size] w4 (w4).drew := (Off.refl _ _).drew
      have sd := s4.keep (Below.refl _ _).drew
      have zb4 := s4.blk.lt
      have yl4 := Y4.lt
      have Yd := Y4.drew
      go_wp2_with fail
      go_region_held3 (fun V => ∀ o, V.cell? ⟨bM, o, none⟩ = (#[.int .i64 Q, .slice p n c] : Array Value)[o]?) (first | exact KS.out _ o4 | exact KS.out _ (o4.alloc _) | exact KS.out _ o5 | exact KS.out _ ((o5.setCell _ _ (by simp)).setCell _ _ (by simp))) (first | (go_at_call 70; refine (spec_l1Pick b a cap zs _ _ [-1, 0, 1, 1, 2, 3, 4, -2] [(w4).heap.size] _ (by exact sd.alloc _) (by omega) (by exact Ints.lit (w4).drew _ [-1, 0, 1, 1, 2, 3, 4, -2] 8 rfl rfl (by omega)) (by simp) (by simp) (by simp; omega)).mono ?_; rintro e w5 ⟨but, rfl, hbut, s5, o5'⟩; have o5 := (o4.alloc _).trans (o5'.mono (fun y hy => by simp at hy ⊢; exact .inl hy)); have Y5 := (Yd.alloc _).off o5' (by simp; omega); have ya := Y5.at.1; have yb := Y5.at.2))
      have OO : ∀ V, Off [w.heap.size] w5 V → (∃ (u : Value) (x : MMirror) (but' : Int), Ending.returned (.tuple #[.agg #[.int .i64 Q, .slice p n c], .int .i64 but]) = .returned (.tuple #[u, .int .i64 but']) ∧ (∀ V' cs, Off cs V V' → (∀ z ∈ cs, z < w.heap.size) → RdMirror V' u x) ∧ Below w.heap.size w V) := fun V OO => ⟨_, _, but, rfl, fun V' cs o' hc => HRD.out V' ([b, w.heap.size] ++ cs) (((o5.trans (OO.mono (fun y hy => by simp at hy ⊢; exact .inr hy))).mono (fun y hy => List.mem_append_left _ hy)).trans (o'.mono (fun y hy => List.mem_append_right _ hy))) (fun z hz => by rcases List.mem_append.1 hz with h | h; (simp at h; omega); (have := hc z h; omega)), B4.trans ((o5.trans (OO.mono (fun y hy => by simp at hy ⊢; exact .inr hy))).toBelow B4.size (fun y hy => by simp at hy; omega))⟩
      clear s5 o5' Y5
      go_wp2
      exact bodyPost_ret (v := .tuple #[.agg #[.int .i64 Q, .slice p n c], .int .i64 but]) (by simp [results, Try.results109, go_sem, ya]) rfl (OO _ (((Off.refl _ _).setCell _ _ (by simp)).setCell _ _ (by simp)))
set_option maxHeartbeats 1000000 in
theorem spec_DrawValueOf (a : Option Addr) (cap : Nat) (zs : List Int) (w : World) (hr : Reads w .u8 (.slice a zs.length cap) zs) (hl : zs.length ≤ 1048576) (hb : ∀ i, 0 ≤ zs.getD i 0 ∧ zs.getD i 0 ≤ 255) :
    Calls Try.prog 47 #[.slice a zs.length cap] w fun e w' => ∃ (u : Value) (x : MMirror) (but : Int), e = .returned (.tuple #[u, .int .i64 but]) ∧ (∀ W cs, Off cs w' W → (∀ z ∈ cs, z < w.heap.size) → RdMirror W u x) ∧ Below w.heap.size w w' := by
  have Y0 := Blk.new w 59 #[.int .i64 0, .slice none 0 0]
  have B0 : Below w.heap.size w (w.alloc (.cells #[.int .i64 0, .slice none 0 0] 59)) := (by repeat (first | exact Below.refl _ _ | refine Below.drew ?_ | refine below_drewN ?_ _ | refine Below.setCell ?_ (by first | omega | (simp; done) | (simp; omega)) _ | refine Below.alloc ?_ (by first | omega | (simp; done) | (simp; omega)) _))
  go_enter Try.func47, Try.ntmps47
  go_wp2_with fail
  refine (spec_DrawIsAlike a cap zs _ (hr.below B0) hl hb).mono ?_
  rintro e w1 ⟨u, x, but, rfl, hR, hb1⟩
  obtain ⟨p, c, rfl, -⟩ := hR w1 [] (Off.refl _ _) (fun z hz => by cases hz)
  have Y1 := Y0.keep hb1
  have B1 := B0.trans (hb1.mono B0.size)
  have ya := Y1.at.1
  have yb := Y1.at.2
  have OO : ∀ V, Off [w.heap.size] w1 V → (∃ (u : Value) (x' : MMirror) (but' : Int), Ending.returned (.tuple #[.agg #[.int .i64 x.xQ, .slice p x.xViews.length c], .int .i64 but]) = .returned (.tuple #[u, .int .i64 but']) ∧ (∀ V' cs, Off cs V V' → (∀ z ∈ cs, z < w.heap.size) → RdMirror V' u x') ∧ Below w.heap.size w V) := fun V OO => ⟨_, x, but, rfl, fun V' cs o' hc => hR V' ([w.heap.size] ++ cs) ((OO.mono (fun y hy => List.mem_append_left _ hy)).trans (o'.mono (fun y hy => List.mem_append_right _ hy))) (fun z hz => by rcases List.mem_append.1 hz with h | h; (simp at h; simp; omega); (have := hc z h; simp; omega)), B1.trans (OO.toBelow B1.size (by simp))⟩
  clear hR Y0 B0 hb1 hr hb
  go_wp2
  exact bodyPost_ret (v := .tuple #[.agg #[.int .i64 x.xQ, .slice p x.xViews.length c], .int .i64 but]) (by simp [results, Try.results47, go_sem, ya]) rfl (OO _ (((Off.refl _ _).setCell _ _ (by simp)).setCell _ _ (by simp)))
end Go.Proofs.Ytepobckhfodngaa
