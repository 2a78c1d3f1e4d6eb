/-
  Contracts of what the laws draw for chapter 6: mirrors that are opened, and parts.
-/
import Derived.Test.YtbmemdgeohnpnacDraw3b
namespace Go.Proofs.Ytbmemdgeohnpnac
open Go.ChangeShapes Go.WideShapes Go.ChangeAt Go.RowKit
set_option linter.unusedVariables false
theorem spec_l1Later (a : Option Addr) (cap : Nat) (zs : List Int) (n : Nat) (w : World) (hr : Reads w .u8 (.slice a zs.length cap) zs) (hl : zs.length ≤ 1048576) (hb : ∀ i, 0 ≤ zs.getD i 0 ∧ zs.getD i 0 ≤ 255) (hn : n ≤ 1000) :
    Calls Try.prog 53 #[.slice a zs.length cap, .int .i64 n] w fun e w' => e = .returned (.pointer (some ⟨w.heap.size, 0, none⟩)) ∧ Src w' w.heap.size a cap zs (5 + 7 * n) ∧ Below w.heap.size w w' := by
  have s0 : Src (w.alloc (.cells #[.slice a zs.length cap, .int .i64 ((5 + 7 * n : Nat) : Int)] 110)) w.heap.size a cap zs (5 + 7 * n) := by
    refine ⟨Blk.new w _ _, hl, hb, fun hz => ?_⟩
    obtain ⟨a', cap', hv, _, hc⟩ := hr
    simp at hv
    obtain ⟨rfl, rfl⟩ := hv
    obtain ⟨g, off, ha, hlt, hcell⟩ := hc hz
    exact ⟨g, off, ha, by omega, by simp; omega, fun i hi => (((Below.refl w.heap.size w).alloc (Nat.le_refl _) _).cell (p := ⟨g, off + i, none⟩) hlt).trans (hcell i hi)⟩
  rw [show ((5 + 7 * n : Nat) : Int) = 5 + 7 * (n : Int) by omega] at s0
  go_enter Try.func53, Try.ntmps53
  go_wp2
  go_ret
  exact ⟨rfl, s0, (by repeat (first | exact Below.refl _ _ | refine Below.drew ?_ | refine below_drewN ?_ _ | refine Below.setCell ?_ (by first | omega | (simp; done) | (simp; omega)) _ | refine Below.alloc ?_ (by first | omega | (simp; done) | (simp; omega)) _))⟩
theorem Off.past {bs cs : List Nat} {a b c : World} (h : Off bs a b) (k : Off cs b c) (hc : ∀ z ∈ cs, a.heap.size ≤ z) : Off bs a c :=
  ⟨k.os.trans h.os, k.tape.trans h.tape, k.output.trans h.output, Nat.le_trans h.size k.size, fun i hi hn => (k.block i (Nat.lt_of_lt_of_le hi h.size) (fun hm => by have := hc i hm; omega)).trans (h.block i hi hn)⟩
/-- some mirror that is drawn -/
def Drawn (w0 : World) (b : Nat) (a : Option Addr) (cap : Nat) (zs : List Int) (k : Nat) (u : Value) (w' : World) : Prop := ∃ x : MMirror, (∀ W cs, Off cs w' W → (∀ z ∈ cs, z < w0.heap.size) → RdMirror W u x) ∧ (∃ j, j ≤ 12 ∧ Src w' b a cap zs (k + j)) ∧ Off [b] w0 w'
theorem Drawn.own {w0 W : World} {b : Nat} {a : Option Addr} {cap : Nat} {zs : List Int} {k j : Nat} {Q : Int} {p : Option Addr} {c : Nat} {xss : List (List Int)} {bs : List Nat} (hM : Mat W (.slice p 4 c) xss bs) (hs : Sq xss) (hb : ∀ y ∈ bs, w0.heap.size ≤ y) (hj : j ≤ 12) (s : Src W b a cap zs (k + j)) (o : Off [b] w0 W) : Drawn w0 b a cap zs k (.agg #[.int .i64 Q, .slice p 4 c]) W :=
  ⟨⟨Q, xss⟩, fun W' cs o' hc => ⟨p, c, by rw [hs.1], by rw [hs.1]; exact (hM.off o' (fun y hy hm => by have := hb y hy; have := hc y hm; omega)).reads⟩, ⟨j, hj, s⟩, o⟩
set_option maxHeartbeats 4000000 in
set_option maxRecDepth 100000 in
theorem spec_l6Draw (b : Nat) (a : Option Addr) (cap : Nat) (zs : List Int) (k : Nat) (w : World) (hs : Src w b a cap zs k) (hk : k ≤ 800000000) :
    Calls Try.prog 55 #[.pointer (some ⟨b, 0, none⟩)] w fun e w' => ∃ u, e = .returned u ∧ Drawn w b a cap zs k u w' := by
  have Y0 := Blk.new w 37 #[.int .i64 0, .slice none 0 0]
  have S0 := hs.alloc (.cells #[.int .i64 0, .slice none 0 0] 37)
  have O0 : Off [b] w (w.alloc (.cells #[.int .i64 0, .slice none 0 0] 37)) := (Off.refl _ _).alloc _
  have hbl : b < w.heap.size := hs.blk.lt
  clear hs
  go_enter Try.func55, Try.ntmps55
  go_wp2_with fail
  refine (spec_l3Q b a cap zs _ _ S0 (by omega)).mono ?_
  rintro e w2 ⟨q, rfl, hq, s2, o2⟩
  have hq2 : q ≤ 256 := by rcases hq with h | h <;> omega
  have Y2 := Y0.off o2 (by simp; omega)
  have O2 := O0.trans o2
  have z2 := O2.size
  clear Y0 S0 O0 o2 hq
  go_wp2_with fail
  refine (spec_l3Draw b a cap zs _ q _ s2 (by omega) hq2).mono ?_
  rintro e w3 ⟨p, c, xs, bs, rfl, hM3, h4, hf, s3, o3⟩
  have Y3 := Y2.off o3 (by simp; omega)
  have O3 := O2.trans o3
  have hyl := Y2.lt
  have hwm : w.heap.size < w3.heap.size := Y3.lt
  have hf' : ∀ y ∈ bs, w.heap.size < y := fun y hy => by have := hf y hy; omega
  have HSQ : Hid (Sq (mirRows xs)) := mirRows_sq h4
  have hbm : ∀ y ∈ bs, y < w3.heap.size := hM3.lt
  clear Y2 O2 s2 o3 hf h4
  have M3 := Blk.new w3 37 #[.int .i64 q, .slice p 4 c]
  replace Y3 := Y3.alloc (.cells #[.int .i64 q, .slice p 4 c] 37)
  replace hM3 := hM3.keep ((Below.refl w3.heap.size w3).alloc (Nat.le_refl _) (.cells #[.int .i64 q, .slice p 4 c] 37))
  replace s3 := s3.alloc (.cells #[.int .i64 q, .slice p 4 c] 37)
  replace O3 := O3.alloc (.cells #[.int .i64 q, .slice p 4 c] 37)
  go_wp2_with fail
  generalize w3.heap.size = bM at *
  refine (spec_l1Chance b a cap zs _ 3 _ s3 (by omega) (by omega)).mono ?_
  rintro e w4 ⟨r, rfl, s4, o4⟩
  have Y4 := Y3.off o4 (by simp; omega)
  have M4 := M3.off o4 (by simp; omega)
  have O4 := O3.trans o4
  have hM4 := hM3.off o4 (fun y hy hm => by have := hf' y hy; simp at hm; omega)
  clear Y3 M3 O3 hM3 s3 o4
  cases r
  · have ma := M4.at.1
    have ya := Y4.at.1
    have yb := Y4.at.2
    have yl := Y4.lt
    have OO : ∀ V, Off [w.heap.size] w4 V → ∃ u, Ending.returned (.agg #[.int .i64 q, .slice p 4 c]) = .returned u ∧ Drawn w b a cap zs k u V := fun V o => ⟨_, rfl, Drawn.own (j := 6) (hM4.off o (fun y hy hm => by have := hf' y hy; simp at hm; omega)) HSQ.out (fun y hy => by have := hf' y hy; omega) (by omega) (s4.off o (fun y hy => by simp at hy; omega)) (O4.past o (by simp))⟩
    clear s4 hM4 O4
    go_wp2
    exact bodyPost_ret (v := .agg #[.int .i64 q, .slice p 4 c]) (by simp [results, Try.results55, go_sem, ya]) rfl (OO _ (((Off.refl _ _).setCell _ _ (by simp)).setCell _ _ (by simp)))
  · have HL : Hid ((mirRows xs).length = 4) := HSQ.out.1
    have hr4 := HSQ.out.2 1 (by omega)
    obtain ⟨g, c', gi, ci, hv, c1, -, hgb, hgi, hgig, -, hce, hset⟩ := hM4.row 1 (by rw [HL.out]; omega) (by rw [hr4]; omega)
    simp only [Value.slice.injEq] at hv
    obtain ⟨rfl, h4q, rfl⟩ := hv
    clear h4q
    rw [hr4] at c1 hce
    obtain ⟨c2, f2⟩ := hce 2 (by omega)
    have hgl := hM4.lt g hgb
    have hgil := hM4.lt gi hgi
    have hgw := hf' g hgb
    have hgiw := hf' gi hgi
    have hgm := hbm g hgb
    have hgim := hbm gi hgi
    have zM4 := M4.lt
    have HSET := hide hset
    have KS : Hid (∀ V, Off [b] w4 V → (∀ o, V.cell? ⟨bM, o, none⟩ = (#[.int .i64 q, .slice (some ⟨g, 0, none⟩) 4 c] : Array Value)[o]?) ∧ V.cell? ⟨g, 1, none⟩ = some (.slice (some ⟨gi, 0, none⟩) 4 ci)) := fun V o => ⟨(M4.off o (by simp; omega)).at.1, ((o.at g hgl (by simp; omega)).1 1).trans c1⟩
    have o4 : Off [b] w4 w4.drew := (Off.refl _ _).drew
    have sd := s4.keep (Below.refl _ _).drew
    have ma := M4.at.1
    clear hset hce
    go_wp2_with fail
    clear ma
    go_region_held3 (fun V => (∀ o, V.cell? ⟨bM, o, none⟩ = (#[.int .i64 q, .slice (some ⟨g, 0, none⟩) 4 c] : Array Value)[o]?) ∧ V.cell? ⟨g, 1, none⟩ = some (.slice (some ⟨gi, 0, none⟩) 4 ci)) (first | exact KS.out _ o4 | exact KS.out _ o5 | exact HSO.out _ ((Off.refl _ _).setCell _ _ (by simp))) (first | (go_at_call 30; refine (spec_l1Next b a cap zs _ 2 _ (by exact sd) (by omega) (by omega)).mono ?_; rintro e w5 ⟨r2, rfl, hr2, s5, o5'⟩; have o5 := o4.trans o5'; have c5 := ((o5.at gi hgil (by simp; omega)).1 2).trans c2; have f5 := ((o5.at gi hgil (by simp; omega)).2 2).trans f2; have HSO : Hid (∀ V, Off [gi] w5 V → (∀ o, V.cell? ⟨bM, o, none⟩ = (#[.int .i64 q, .slice (some ⟨g, 0, none⟩) 4 c] : Array Value)[o]?) ∧ V.cell? ⟨g, 1, none⟩ = some (.slice (some ⟨gi, 0, none⟩) 4 ci)) := (fun V o => ⟨((M4.off o5 (by simp; omega)).off o (by simp; omega)).at.1, ((o.at g (Nat.lt_of_lt_of_le hgl o5.size) (by simpa using Ne.symm hgig)).1 1).trans (KS.out _ o5).2⟩); clear o5' hr2))
    have O6 : Off [gi] w5 (w5.setCell ⟨gi, 2, none⟩ (.int .i64 r2)) := (Off.refl _ _).setCell _ _ (by simp)
    have M6 := (M4.off o5 (by simp; omega)).setOther ⟨gi, 2, none⟩ (.int .i64 r2) (by simp; omega)
    have Y6 := (Y4.off o5 (by simp; omega)).setOther ⟨gi, 2, none⟩ (.int .i64 r2) (by simp; omega)
    have s6 := s5.off O6 (fun y hy => by simp at hy; omega)
    have hM6 := HSET.out w5 [b] o5 (fun z hz hm => by have := hf' z hz; simp at hm; omega) 2 r2
    have O7 : Off [b] w (w5.setCell ⟨gi, 2, none⟩ (.int .i64 r2)) := (O4.trans o5).past O6 (by simp; omega)
    have HSQ2 : Hid (Sq ((mirRows xs).set 1 (((mirRows xs).getD 1 []).set 2 r2))) := HSQ.out.set 1 _ (by rw [List.length_set]; exact hr4)
    generalize (mirRows xs).set 1 (((mirRows xs).getD 1 []).set 2 r2) = yss at *
    obtain ⟨w4', hw4⟩ : ∃ y, y = w5.setCell ⟨gi, 2, none⟩ (.int .i64 r2) := ⟨_, rfl⟩
    rw [← hw4] at M6 Y6 s6 hM6 O7 ⊢
    clear hw4 O6 s5 o5 c5 f5 c1 c2 f2 HSO KS sd o4 M4 Y4 s4 O4 hM4 HSET
    have ma := M6.at.1
    have ya := Y6.at.1
    have yb := Y6.at.2
    have yl := Y6.lt
    have OO : ∀ V, Off [w.heap.size] w4' V → ∃ u, Ending.returned (.agg #[.int .i64 q, .slice (some ⟨g, 0, none⟩) 4 c]) = .returned u ∧ Drawn w b a cap zs k u V := fun V o => ⟨_, rfl, Drawn.own (j := 7) (hM6.off o (fun y hy hm => by have := hf' y hy; simp at hm; omega)) HSQ2.out (fun y hy => by have := hf' y hy; omega) (by omega) (s6.off o (fun y hy => by simp at hy; omega)) (O7.past o (by simp))⟩
    clear s6 hM6 O7
    go_wp2
    exact bodyPost_ret (v := .agg #[.int .i64 q, .slice (some ⟨g, 0, none⟩) 4 c]) (by simp [results, Try.results55, go_sem, ya]) rfl (OO _ (((Off.refl _ _).setCell _ _ (by simp)).setCell _ _ (by simp)))
set_option maxHeartbeats 16000000 in
set_option maxRecDepth 100000 in
theorem spec_DrawOpenMirror (a : Option Addr) (cap : Nat) (zs : List Int) (w : World) (hr : Reads w .u8 (.slice a zs.length cap) zs) (hl : zs.length ≤ 1048576) (hb : ∀ i, 0 ≤ zs.getD i 0 ∧ zs.getD i 0 ≤ 255) :
    Calls Try.prog 17 #[.slice a zs.length cap] w fun e w' => ∃ (u : Value) (x : MMirror) (who by' : Int), e = .returned (.tuple #[u, .int .i64 who, .int .i64 by']) ∧ (∀ W cs, Off cs w' W → (∀ z ∈ cs, z < w.heap.size) → RdMirror W u x) ∧ Below w.heap.size w w' := by
  have Y0 := Blk.new w 37 #[.int .i64 0, .slice none 0 0]
  have B0 : Below w.heap.size w (w.alloc (.cells #[.int .i64 0, .slice none 0 0] 37)) := (by repeat (first | exact Below.refl _ _ | refine Below.drew ?_ | refine below_drewN ?_ _ | refine Below.setCell ?_ (by first | omega | (simp; done) | (simp; omega)) _ | refine Below.alloc ?_ (by first | omega | (simp; done) | (simp; omega)) _))
  have hbz : (w.alloc (.cells #[.int .i64 0, .slice none 0 0] 37)).heap.size = w.heap.size + 1 := by simp
  have hr0 := hr.below B0
  clear hr
  go_enter Try.func17, Try.ntmps17
  go_wp2_with fail
  refine (spec_l1Source a cap zs _ hr0 hl hb).mono ?_
  rintro e w1 ⟨rfl, s1, hb1⟩
  rw [hbz] at s1 ⊢
  have Y1 := Y0.keep hb1
  have B1 := B0.trans (hb1.mono B0.size)
  obtain ⟨b, hbb⟩ : ∃ n, n = w.heap.size + 1 := ⟨_, rfl⟩
  rw [← hbb] at s1 ⊢
  have hbw : w.heap.size < b := by omega
  have hb1' : b < w1.heap.size := s1.blk.lt
  clear Y0 B0 hb1 hr0 hb hbb hbz
  go_wp2_with fail
  refine (spec_l6Draw b a cap zs _ _ s1 (by omega)).mono ?_
  rintro e w3 ⟨u, rfl, x, hRS, ⟨j, hj, s3⟩, o3⟩
  obtain ⟨p, c, hu, -⟩ := hRS w3 [] (Off.refl _ _) (fun z hz => by cases hz)
  subst hu
  have Y3 := Y1.off o3 (by simp; omega)
  have B3 := B1.trans (o3.toBelow B1.size (by simp; omega))
  have z3 := o3.size
  generalize x.xQ = Q at *
  generalize x.xViews.length = n at *
  have HRS : Hid (∀ W cs, Off cs w3 W → (∀ z ∈ cs, z < w1.heap.size) → RdMirror W (.agg #[.int .i64 Q, .slice p n c]) x) := hRS
  clear hRS Y1 B1 s1 o3
  have M3 := Blk.new w3 37 #[.int .i64 Q, .slice p n c]
  replace Y3 := Y3.alloc (.cells #[.int .i64 Q, .slice p n c] 37)
  have s3' := s3.alloc (.cells #[.int .i64 Q, .slice p n c] 37)
  have B3' := B3.alloc B3.size (.cells #[.int .i64 Q, .slice p n c] 37)
  go_wp2_with fail
  generalize hgM : w3.heap.size = bM at *
  have hbM : b < bM := by omega
  clear hgM
  refine (spec_l1Chance b a cap zs _ 8 _ s3' (by omega) (by omega)).mono ?_
  rintro e w4 ⟨r, rfl, s4, o4⟩
  have Y4 := Y3.off o4 (by simp; omega)
  have M4 := M3.off o4 (by simp; omega)
  have B4 := B3'.trans (o4.toBelow B3'.size (by simp; omega))
  have O4 : Off [b] w3 w4 := ((Off.refl _ _).alloc _).trans o4
  have HRD : Hid (∀ V cs, Off cs w4 V → (∀ z ∈ cs, z ≤ b) → RdMirror V (.agg #[.int .i64 Q, .slice p n c]) x) := fun V cs o hc => HRS.out V ([b] ++ cs) ((O4.mono (fun y hy => List.mem_append_left _ hy)).trans (o.mono (fun y hy => List.mem_append_right _ hy))) (fun z hz => by rcases List.mem_append.1 hz with h | h; (simp at h; omega); (have := hc z h; omega))
  clear Y3 M3 B3 B3' s3 s3' o4 O4 HRS
  cases r
  · have ma := M4.at.1
    have KS : Hid (∀ V, Off [b, w.heap.size] w4 V → ∀ o, V.cell? ⟨bM, o, none⟩ = (#[.int .i64 Q, .slice p n c] : Array Value)[o]?) := fun V o => (M4.off o (by simp; omega)).at.1
    have o4 : Off [b, w.heap.size] w4 (w4).drew := (Off.refl _ _).drew
    have sd := s4.keep (Below.refl _ _).drew
    have zb4 := s4.blk.lt
    have yl4 := Y4.lt
    have zM4 := M4.lt
    have Yd := Y4.drew
    have tk0 : Hid True := trivial
    go_wp2_with fail
    refine wp_region_held (S := fun V => (∀ o, V.cell? ⟨bM, o, none⟩ = (#[.int .i64 Q, .slice p n c] : Array Value)[o]?)) (by kernel_rfl) ?_
    try (change wpAnyH _ _ _ _ _ _ _ _ (World.drew _))
    have hS : (∀ o, w4.drew.cell? ⟨bM, o, none⟩ = (#[.int .i64 Q, .slice p n c] : Array Value)[o]?) := KS.out _ o4
    generalize w4.drew = wd at sd o4 Yd hS ⊢
    refine wpAnyH_take (i := 0) (v := ?vn1) rfl (by kernel_rfl) (by kernel_rfl) (by kernel_rfl) (fun _ _ _ h => h) (Or.inl ⟨by rfl, ?hn1⟩) hS ?rn1
    case hn1 => intro w' hSw; go_simp; (try with_reducible rfl)
    (try simp only [List.getElem_toArray]); (try simp only [List.getElem_cons_succ]); (try simp only [List.getElem_cons_zero]); (try simp only [Act.put]); (try simp only [List.setIfInBounds_toArray]); (try simp only [List.set_cons_succ]); (try simp only [List.set_cons_zero])
    refine wpAnyH_take (i := 1) (v := ?vn2) rfl (by kernel_rfl) (by kernel_rfl) (by kernel_rfl) (fun _ _ _ h => h) (Or.inl ⟨by rfl, ?hn2⟩) hS ?rn2
    case hn2 => intro w' hSw; go_simp; (try with_reducible rfl)
    (try simp only [List.getElem_toArray]); (try simp only [List.getElem_cons_succ]); (try simp only [List.getElem_cons_zero]); (try simp only [Act.put]); (try simp only [List.setIfInBounds_toArray]); (try simp only [List.set_cons_succ]); (try simp only [List.set_cons_zero])
    refine wpAnyH_take (i := 4) (v := ?vn3) rfl (by kernel_rfl) (by kernel_rfl) (by kernel_rfl) (fun _ _ _ h => h) (Or.inl ⟨by rfl, ?hn3⟩) hS ?rn3
    case hn3 => intro w' hSw; go_simp; (try with_reducible rfl)
    (try simp only [List.getElem_toArray]); (try simp only [List.getElem_cons_succ]); (try simp only [List.getElem_cons_zero]); (try simp only [Act.put]); (try simp only [List.setIfInBounds_toArray]); (try simp only [List.set_cons_succ]); (try simp only [List.set_cons_zero])
    refine wpAnyH_ready (rs := [2, 5]) (by kernel_rfl) (by simp) ?_
    refine AllReadyH.cons (o := _) rfl (fun K hK => ?_) (AllReadyH.cons (o := _) rfl (fun K hK => ?_) AllReadyH.nil)
    · skip
      have hg7 : b < wd.heap.size := by have := zb4; have := o4.size; omega
      rw [if_pos (by rfl)]
      go_simp
      clear hS
      have I7 : Ints (wd.alloc (.cells #[.int .i64 (-1), .int .i64 0, .int .i64 1, .int .i64 1, .int .i64 2, .int .i64 3, .int .i64 4] 2)) (.slice (some ⟨wd.heap.size, 0, none⟩) 7 7) [-1, 0, 1, 1, 2, 3, 4] [wd.heap.size] := by exact Ints.lit wd _ [-1, 0, 1, 1, 2, 3, 4] 7 rfl rfl (by omega)
      replace sd := sd.alloc (.cells #[.int .i64 (-1), .int .i64 0, .int .i64 1, .int .i64 1, .int .i64 2, .int .i64 3, .int .i64 4] 2)
      replace o4 := o4.alloc (.cells #[.int .i64 (-1), .int .i64 0, .int .i64 1, .int .i64 1, .int .i64 2, .int .i64 3, .int .i64 4] 2)
      replace Yd := Yd.alloc (.cells #[.int .i64 (-1), .int .i64 0, .int .i64 1, .int .i64 1, .int .i64 2, .int .i64 3, .int .i64 4] 2)
      try replace I4 := Ints.alloc I4 (.cells #[.int .i64 (-1), .int .i64 0, .int .i64 1, .int .i64 1, .int .i64 2, .int .i64 3, .int .i64 4] 2)
      have hS : (∀ o, (wd.alloc (.cells #[.int .i64 (-1), .int .i64 0, .int .i64 1, .int .i64 1, .int .i64 2, .int .i64 3, .int .i64 4] 2)).cell? ⟨bM, o, none⟩ = (#[.int .i64 Q, .slice p n c] : Array Value)[o]?) := KS.out _ o4
      refine hK.out _ _ hS (fun hS => ?_)
      clear hK K
      (try simp only [List.getElem_toArray]); (try simp only [List.getElem_cons_succ]); (try simp only [List.getElem_cons_zero]); (try simp only [Act.put]); (try simp only [List.setIfInBounds_toArray]); (try simp only [List.set_cons_succ]); (try simp only [List.set_cons_zero])
      generalize wd.heap.size = g7 at *
      generalize wd.alloc (.cells #[.int .i64 (-1), .int .i64 0, .int .i64 1, .int .i64 1, .int .i64 2, .int .i64 3, .int .i64 4] 2) = V4 at *
      refine wpAnyH_ready (rs := [3, 5]) (by kernel_rfl) (by simp) ?_
      refine AllReadyH.cons (o := _) rfl (fun K hK => ?_) (AllReadyH.cons (o := _) rfl (fun K hK => ?_) AllReadyH.nil)
      · skip
        rw [if_pos (by rfl)]
        go_simp
        go_at_call 29
        clear hS
        refine (spec_l1Pick b a cap zs _ _ [-1, 0, 1, 1, 2, 3, 4] [g7] _ sd (by omega) I7 (by simp) (by simp) (by simp; omega)).mono ?_
        rintro e V5 ⟨who, rfl, -, s5, o5⟩
        replace sd := s5
        replace o4 := o4.trans (o5.mono (fun y hy => by simp at hy ⊢; exact .inl hy))
        replace Yd := Yd.off o5 (by simp; omega)
        try replace I4 := Ints.off I4 o5 (by simp; omega)
        clear s5 o5
        have hS : (∀ o, V5.cell? ⟨bM, o, none⟩ = (#[.int .i64 Q, .slice p n c] : Array Value)[o]?) := KS.out _ o4
        refine hK.out _ _ hS (fun hS => ?_)
        clear hK K
        (try simp only [List.getElem_toArray]); (try simp only [List.getElem_cons_succ]); (try simp only [List.getElem_cons_zero]); (try simp only [Act.put]); (try simp only [List.setIfInBounds_toArray]); (try simp only [List.set_cons_succ]); (try simp only [List.set_cons_zero])
        refine wpAnyH_ready (rs := [5]) (by kernel_rfl) (by simp) ?_
        refine AllReadyH.cons (o := _) rfl (fun K hK => ?_) AllReadyH.nil
        have hg4 : b < V5.heap.size := by have := zb4; have := o4.size; omega
        rw [if_pos (by rfl)]
        go_simp
        clear hS
        have I4 : Ints (V5.alloc (.cells #[.int .i64 0, .int .i64 1, .int .i64 255, .int .i64 256] 2)) (.slice (some ⟨V5.heap.size, 0, none⟩) 4 4) [0, 1, 255, 256] [V5.heap.size] := by exact Ints.lit V5 _ [0, 1, 255, 256] 4 rfl rfl (by omega)
        replace sd := sd.alloc (.cells #[.int .i64 0, .int .i64 1, .int .i64 255, .int .i64 256] 2)
        replace o4 := o4.alloc (.cells #[.int .i64 0, .int .i64 1, .int .i64 255, .int .i64 256] 2)
        replace Yd := Yd.alloc (.cells #[.int .i64 0, .int .i64 1, .int .i64 255, .int .i64 256] 2)
        try replace I7 := Ints.alloc I7 (.cells #[.int .i64 0, .int .i64 1, .int .i64 255, .int .i64 256] 2)
        have hS : (∀ o, (V5.alloc (.cells #[.int .i64 0, .int .i64 1, .int .i64 255, .int .i64 256] 2)).cell? ⟨bM, o, none⟩ = (#[.int .i64 Q, .slice p n c] : Array Value)[o]?) := KS.out _ o4
        refine hK.out _ _ hS (fun hS => ?_)
        clear hK K
        (try simp only [List.getElem_toArray]); (try simp only [List.getElem_cons_succ]); (try simp only [List.getElem_cons_zero]); (try simp only [Act.put]); (try simp only [List.setIfInBounds_toArray]); (try simp only [List.set_cons_succ]); (try simp only [List.set_cons_zero])
        generalize V5.heap.size = g4 at *
        generalize V5.alloc (.cells #[.int .i64 0, .int .i64 1, .int .i64 255, .int .i64 256] 2) = V6 at *
        refine wpAnyH_ready (rs := [6]) (by kernel_rfl) (by simp) ?_
        refine AllReadyH.cons (o := _) rfl (fun K hK => ?_) AllReadyH.nil
        rw [if_pos (by rfl)]
        go_simp
        go_at_call 29
        clear hS
        refine (spec_l1Pick b a cap zs _ _ [0, 1, 255, 256] [g4] _ sd (by omega) I4 (by simp) (by simp) (by simp; omega)).mono ?_
        rintro e V7 ⟨by', rfl, -, s5, o5⟩
        replace sd := s5
        replace o4 := o4.trans (o5.mono (fun y hy => by simp at hy ⊢; exact .inl hy))
        replace Yd := Yd.off o5 (by simp; omega)
        try replace I7 := Ints.off I7 o5 (by simp; omega)
        clear s5 o5
        have hS : (∀ o, V7.cell? ⟨bM, o, none⟩ = (#[.int .i64 Q, .slice p n c] : Array Value)[o]?) := KS.out _ o4
        refine hK.out _ _ hS (fun hS => ?_)
        clear hK K
        (try simp only [List.getElem_toArray]); (try simp only [List.getElem_cons_succ]); (try simp only [List.getElem_cons_zero]); (try simp only [Act.put]); (try simp only [List.setIfInBounds_toArray]); (try simp only [List.set_cons_succ]); (try simp only [List.set_cons_zero])
        refine wpAnyH_ready (rs := [7]) (by kernel_rfl) (by simp) ?_
        refine AllReadyH.cons (o := _) rfl (fun K hK => ?_) AllReadyH.nil
        have ya := Yd.at.1
        have yb := Yd.at.2
        rw [if_pos (by rfl)]
        go_simp
        clear hS
        have OO : ∀ V, Off [w.heap.size] V7 V → (∃ (u : Value) (x : MMirror) (who_1 by_1 : Int), Ending.returned (.tuple #[.agg #[.int .i64 Q, .slice p n c], .int .i64 who, .int .i64 by']) = .returned (.tuple #[u, .int .i64 who_1, .int .i64 by_1]) ∧ (∀ V' cs, Off cs V V' → (∀ z ∈ cs, z < w.heap.size) → RdMirror V' u x) ∧ Below w.heap.size w V) := fun V OO => ⟨_, _, who, by', rfl, fun V' cs o' hc => HRD.out V' ([b, w.heap.size] ++ cs) (((o4.trans (OO.mono (fun y hy => by simp at hy ⊢; exact .inr hy))).mono (fun y hy => List.mem_append_left _ hy)).trans (o'.mono (fun y hy => List.mem_append_right _ hy))) (fun z hz => by rcases List.mem_append.1 hz with h | h; (simp at h; omega); (have := hc z h; omega)), B4.trans ((o4.trans (OO.mono (fun y hy => by simp at hy ⊢; exact .inr hy))).toBelow B4.size (fun y hy => by simp at hy; omega))⟩
        have ow : Off [w.heap.size] V7 ((V7.setCell ⟨w.heap.size, 0, none⟩ (.int .i64 Q)).setCell ⟨w.heap.size, 1, none⟩ (.slice p n c)) := ((Off.refl _ _).setCell _ _ (by simp)).setCell _ _ (by simp)
        have hS : (∀ o, ((V7.setCell ⟨w.heap.size, 0, none⟩ (.int .i64 Q)).setCell ⟨w.heap.size, 1, none⟩ (.slice p n c)).cell? ⟨bM, o, none⟩ = (#[.int .i64 Q, .slice p n c] : Array Value)[o]?) := KS.out _ (o4.trans (ow.mono (fun y hy => by simp at hy ⊢; exact .inr hy)))
        refine hK.out _ _ hS (fun hS => ?_)
        clear hK K
        (try simp only [List.getElem_toArray]); (try simp only [List.getElem_cons_succ]); (try simp only [List.getElem_cons_zero]); (try simp only [Act.put]); (try simp only [List.setIfInBounds_toArray]); (try simp only [List.set_cons_succ]); (try simp only [List.set_cons_zero])
        refine wpAnyH_take (i := 8) (v := ?vn8) rfl (by kernel_rfl) (by kernel_rfl) (by kernel_rfl) (fun _ _ _ h => h) (Or.inl ⟨by rfl, ?hn8⟩) hS ?rn8
        case hn8 => intro w' hSw; go_simp; (try with_reducible rfl)
        (try simp only [List.getElem_toArray]); (try simp only [List.getElem_cons_succ]); (try simp only [List.getElem_cons_zero]); (try simp only [Act.put]); (try simp only [List.setIfInBounds_toArray]); (try simp only [List.set_cons_succ]); (try simp only [List.set_cons_zero])
        refine wpAnyH_take (i := 9) (v := ?vn9) rfl (by kernel_rfl) (by kernel_rfl) (by kernel_rfl) (fun _ _ _ h => h) (Or.inl ⟨by rfl, ?hn9⟩) hS ?rn9
        case hn9 => intro w' hSw; go_simp; (try with_reducible rfl)
        (try simp only [List.getElem_toArray]); (try simp only [List.getElem_cons_succ]); (try simp only [List.getElem_cons_zero]); (try simp only [Act.put]); (try simp only [List.setIfInBounds_toArray]); (try simp only [List.set_cons_succ]); (try simp only [List.set_cons_zero])
        refine wpAnyH_done (by kernel_rfl) ?_ _
        clear hS
        go_wp2
        exact bodyPost_ret (v := .tuple #[.agg #[.int .i64 Q, .slice p n c], .int .i64 who, .int .i64 by']) (by simp [results, Try.results17, go_sem, ya]) rfl (OO _ (((Off.refl _ _).setCell _ _ (by simp)).setCell _ _ (by simp)))
      · skip
        have hg4 : b < V4.heap.size := by have := zb4; have := o4.size; omega
        rw [if_pos (by rfl)]
        go_simp
        clear hS
        have I4 : Ints (V4.alloc (.cells #[.int .i64 0, .int .i64 1, .int .i64 255, .int .i64 256] 2)) (.slice (some ⟨V4.heap.size, 0, none⟩) 4 4) [0, 1, 255, 256] [V4.heap.size] := by exact Ints.lit V4 _ [0, 1, 255, 256] 4 rfl rfl (by omega)
        replace sd := sd.alloc (.cells #[.int .i64 0, .int .i64 1, .int .i64 255, .int .i64 256] 2)
        replace o4 := o4.alloc (.cells #[.int .i64 0, .int .i64 1, .int .i64 255, .int .i64 256] 2)
        replace Yd := Yd.alloc (.cells #[.int .i64 0, .int .i64 1, .int .i64 255, .int .i64 256] 2)
        try replace I7 := Ints.alloc I7 (.cells #[.int .i64 0, .int .i64 1, .int .i64 255, .int .i64 256] 2)
        have hS : (∀ o, (V4.alloc (.cells #[.int .i64 0, .int .i64 1, .int .i64 255, .int .i64 256] 2)).cell? ⟨bM, o, none⟩ = (#[.int .i64 Q, .slice p n c] : Array Value)[o]?) := KS.out _ o4
        refine hK.out _ _ hS (fun hS => ?_)
        clear hK K
        (try simp only [List.getElem_toArray]); (try simp only [List.getElem_cons_succ]); (try simp only [List.getElem_cons_zero]); (try simp only [Act.put]); (try simp only [List.setIfInBounds_toArray]); (try simp only [List.set_cons_succ]); (try simp only [List.set_cons_zero])
        generalize V4.heap.size = g4 at *
        generalize V4.alloc (.cells #[.int .i64 0, .int .i64 1, .int .i64 255, .int .i64 256] 2) = V10 at *
        refine wpAnyH_ready (rs := [3]) (by kernel_rfl) (by simp) ?_
        refine AllReadyH.cons (o := _) rfl (fun K hK => ?_) AllReadyH.nil
        rw [if_pos (by rfl)]
        go_simp
        go_at_call 29
        clear hS
        refine (spec_l1Pick b a cap zs _ _ [-1, 0, 1, 1, 2, 3, 4] [g7] _ sd (by omega) I7 (by simp) (by simp) (by simp; omega)).mono ?_
        rintro e V11 ⟨who, rfl, -, s5, o5⟩
        replace sd := s5
        replace o4 := o4.trans (o5.mono (fun y hy => by simp at hy ⊢; exact .inl hy))
        replace Yd := Yd.off o5 (by simp; omega)
        try replace I4 := Ints.off I4 o5 (by simp; omega)
        clear s5 o5
        have hS : (∀ o, V11.cell? ⟨bM, o, none⟩ = (#[.int .i64 Q, .slice p n c] : Array Value)[o]?) := KS.out _ o4
        refine hK.out _ _ hS (fun hS => ?_)
        clear hK K
        (try simp only [List.getElem_toArray]); (try simp only [List.getElem_cons_succ]); (try simp only [List.getElem_cons_zero]); (try simp only [Act.put]); (try simp only [List.setIfInBounds_toArray]); (try simp only [List.set_cons_succ]); (try simp only [List.set_cons_zero])
        refine wpAnyH_ready (rs := [6]) (by kernel_rfl) (by simp) ?_
        refine AllReadyH.cons (o := _) rfl (fun K hK => ?_) AllReadyH.nil
        rw [if_pos (by rfl)]
        go_simp
        go_at_call 29
        clear hS
        refine (spec_l1Pick b a cap zs _ _ [0, 1, 255, 256] [g4] _ sd (by omega) I4 (by simp) (by simp) (by simp; omega)).mono ?_
        rintro e V12 ⟨by', rfl, -, s5, o5⟩
        replace sd := s5
        replace o4 := o4.trans (o5.mono (fun y hy => by simp at hy ⊢; exact .inl hy))
        replace Yd := Yd.off o5 (by simp; omega)
        try replace I7 := Ints.off I7 o5 (by simp; omega)
        clear s5 o5
        have hS : (∀ o, V12.cell? ⟨bM, o, none⟩ = (#[.int .i64 Q, .slice p n c] : Array Value)[o]?) := KS.out _ o4
        refine hK.out _ _ hS (fun hS => ?_)
        clear hK K
        (try simp only [List.getElem_toArray]); (try simp only [List.getElem_cons_succ]); (try simp only [List.getElem_cons_zero]); (try simp only [Act.put]); (try simp only [List.setIfInBounds_toArray]); (try simp only [List.set_cons_succ]); (try simp only [List.set_cons_zero])
        refine wpAnyH_ready (rs := [7]) (by kernel_rfl) (by simp) ?_
        refine AllReadyH.cons (o := _) rfl (fun K hK => ?_) AllReadyH.nil
        have ya := Yd.at.1
        have yb := Yd.at.2
        rw [if_pos (by rfl)]
        go_simp
        clear hS
        have OO : ∀ V, Off [w.heap.size] V12 V → (∃ (u : Value) (x : MMirror) (who_1 by_1 : Int), Ending.returned (.tuple #[.agg #[.int .i64 Q, .slice p n c], .int .i64 who, .int .i64 by']) = .returned (.tuple #[u, .int .i64 who_1, .int .i64 by_1]) ∧ (∀ V' cs, Off cs V V' → (∀ z ∈ cs, z < w.heap.size) → RdMirror V' u x) ∧ Below w.heap.size w V) := fun V OO => ⟨_, _, who, by', rfl, fun V' cs o' hc => HRD.out V' ([b, w.heap.size] ++ cs) (((o4.trans (OO.mono (fun y hy => by simp at hy ⊢; exact .inr hy))).mono (fun y hy => List.mem_append_left _ hy)).trans (o'.mono (fun y hy => List.mem_append_right _ hy))) (fun z hz => by rcases List.mem_append.1 hz with h | h; (simp at h; omega); (have := hc z h; omega)), B4.trans ((o4.trans (OO.mono (fun y hy => by simp at hy ⊢; exact .inr hy))).toBelow B4.size (fun y hy => by simp at hy; omega))⟩
        have ow : Off [w.heap.size] V12 ((V12.setCell ⟨w.heap.size, 0, none⟩ (.int .i64 Q)).setCell ⟨w.heap.size, 1, none⟩ (.slice p n c)) := ((Off.refl _ _).setCell _ _ (by simp)).setCell _ _ (by simp)
        have hS : (∀ o, ((V12.setCell ⟨w.heap.size, 0, none⟩ (.int .i64 Q)).setCell ⟨w.heap.size, 1, none⟩ (.slice p n c)).cell? ⟨bM, o, none⟩ = (#[.int .i64 Q, .slice p n c] : Array Value)[o]?) := KS.out _ (o4.trans (ow.mono (fun y hy => by simp at hy ⊢; exact .inr hy)))
        refine hK.out _ _ hS (fun hS => ?_)
        clear hK K
        (try simp only [List.getElem_toArray]); (try simp only [List.getElem_cons_succ]); (try simp only [List.getElem_cons_zero]); (try simp only [Act.put]); (try simp only [List.setIfInBounds_toArray]); (try simp only [List.set_cons_succ]); (try simp only [List.set_cons_zero])
        refine wpAnyH_take (i := 8) (v := ?vn13) rfl (by kernel_rfl) (by kernel_rfl) (by kernel_rfl) (fun _ _ _ h => h) (Or.inl ⟨by rfl, ?hn13⟩) hS ?rn13
        case hn13 => intro w' hSw; go_simp; (try with_reducible rfl)
        (try simp only [List.getElem_toArray]); (try simp only [List.getElem_cons_succ]); (try simp only [List.getElem_cons_zero]); (try simp only [Act.put]); (try simp only [List.setIfInBounds_toArray]); (try simp only [List.set_cons_succ]); (try simp only [List.set_cons_zero])
        refine wpAnyH_take (i := 9) (v := ?vn14) rfl (by kernel_rfl) (by kernel_rfl) (by kernel_rfl) (fun _ _ _ h => h) (Or.inl ⟨by rfl, ?hn14⟩) hS ?rn14
        case hn14 => intro w' hSw; go_simp; (try with_reducible rfl)
        (try simp only [List.getElem_toArray]); (try simp only [List.getElem_cons_succ]); (try simp only [List.getElem_cons_zero]); (try simp only [Act.put]); (try simp only [List.setIfInBounds_toArray]); (try simp only [List.set_cons_succ]); (try simp only [List.set_cons_zero])
        refine wpAnyH_done (by kernel_rfl) ?_ _
        clear hS
        go_wp2
        exact bodyPost_ret (v := .tuple #[.agg #[.int .i64 Q, .slice p n c], .int .i64 who, .int .i64 by']) (by simp [results, Try.results17, go_sem, ya]) rfl (OO _ (((Off.refl _ _).setCell _ _ (by simp)).setCell _ _ (by simp)))
    · skip
      have hg4 : b < wd.heap.size := by have := zb4; have := o4.size; omega
      rw [if_pos (by rfl)]
      go_simp
      clear hS
      have I4 : Ints (wd.alloc (.cells #[.int .i64 0, .int .i64 1, .int .i64 255, .int .i64 256] 2)) (.slice (some ⟨wd.heap.size, 0, none⟩) 4 4) [0, 1, 255, 256] [wd.heap.size] := by exact Ints.lit wd _ [0, 1, 255, 256] 4 rfl rfl (by omega)
      replace sd := sd.alloc (.cells #[.int .i64 0, .int .i64 1, .int .i64 255, .int .i64 256] 2)
      replace o4 := o4.alloc (.cells #[.int .i64 0, .int .i64 1, .int .i64 255, .int .i64 256] 2)
      replace Yd := Yd.alloc (.cells #[.int .i64 0, .int .i64 1, .int .i64 255, .int .i64 256] 2)
      try replace I7 := Ints.alloc I7 (.cells #[.int .i64 0, .int .i64 1, .int .i64 255, .int .i64 256] 2)
      have hS : (∀ o, (wd.alloc (.cells #[.int .i64 0, .int .i64 1, .int .i64 255, .int .i64 256] 2)).cell? ⟨bM, o, none⟩ = (#[.int .i64 Q, .slice p n c] : Array Value)[o]?) := KS.out _ o4
      refine hK.out _ _ hS (fun hS => ?_)
      clear hK K
      (try simp only [List.getElem_toArray]); (try simp only [List.getElem_cons_succ]); (try simp only [List.getElem_cons_zero]); (try simp only [Act.put]); (try simp only [List.setIfInBounds_toArray]); (try simp only [List.set_cons_succ]); (try simp only [List.set_cons_zero])
      generalize wd.heap.size = g4 at *
      generalize wd.alloc (.cells #[.int .i64 0, .int .i64 1, .int .i64 255, .int .i64 256] 2) = V15 at *
      refine wpAnyH_ready (rs := [2]) (by kernel_rfl) (by simp) ?_
      refine AllReadyH.cons (o := _) rfl (fun K hK => ?_) AllReadyH.nil
      have hg7 : b < V15.heap.size := by have := zb4; have := o4.size; omega
      rw [if_pos (by rfl)]
      go_simp
      clear hS
      have I7 : Ints (V15.alloc (.cells #[.int .i64 (-1), .int .i64 0, .int .i64 1, .int .i64 1, .int .i64 2, .int .i64 3, .int .i64 4] 2)) (.slice (some ⟨V15.heap.size, 0, none⟩) 7 7) [-1, 0, 1, 1, 2, 3, 4] [V15.heap.size] := by exact Ints.lit V15 _ [-1, 0, 1, 1, 2, 3, 4] 7 rfl rfl (by omega)
      replace sd := sd.alloc (.cells #[.int .i64 (-1), .int .i64 0, .int .i64 1, .int .i64 1, .int .i64 2, .int .i64 3, .int .i64 4] 2)
      replace o4 := o4.alloc (.cells #[.int .i64 (-1), .int .i64 0, .int .i64 1, .int .i64 1, .int .i64 2, .int .i64 3, .int .i64 4] 2)
      replace Yd := Yd.alloc (.cells #[.int .i64 (-1), .int .i64 0, .int .i64 1, .int .i64 1, .int .i64 2, .int .i64 3, .int .i64 4] 2)
      try replace I4 := Ints.alloc I4 (.cells #[.int .i64 (-1), .int .i64 0, .int .i64 1, .int .i64 1, .int .i64 2, .int .i64 3, .int .i64 4] 2)
      have hS : (∀ o, (V15.alloc (.cells #[.int .i64 (-1), .int .i64 0, .int .i64 1, .int .i64 1, .int .i64 2, .int .i64 3, .int .i64 4] 2)).cell? ⟨bM, o, none⟩ = (#[.int .i64 Q, .slice p n c] : Array Value)[o]?) := KS.out _ o4
      refine hK.out _ _ hS (fun hS => ?_)
      clear hK K
      (try simp only [List.getElem_toArray]); (try simp only [List.getElem_cons_succ]); (try simp only [List.getElem_cons_zero]); (try simp only [Act.put]); (try simp only [List.setIfInBounds_toArray]); (try simp only [List.set_cons_succ]); (try simp only [List.set_cons_zero])
      generalize V15.heap.size = g7 at *
      generalize V15.alloc (.cells #[.int .i64 (-1), .int .i64 0, .int .i64 1, .int .i64 1, .int .i64 2, .int .i64 3, .int .i64 4] 2) = V16 at *
      refine wpAnyH_ready (rs := [3]) (by kernel_rfl) (by simp) ?_
      refine AllReadyH.cons (o := _) rfl (fun K hK => ?_) AllReadyH.nil
      rw [if_pos (by rfl)]
      go_simp
      go_at_call 29
      clear hS
      refine (spec_l1Pick b a cap zs _ _ [-1, 0, 1, 1, 2, 3, 4] [g7] _ sd (by omega) I7 (by simp) (by simp) (by simp; omega)).mono ?_
      rintro e V17 ⟨who, rfl, -, s5, o5⟩
      replace sd := s5
      replace o4 := o4.trans (o5.mono (fun y hy => by simp at hy ⊢; exact .inl hy))
      replace Yd := Yd.off o5 (by simp; omega)
      try replace I4 := Ints.off I4 o5 (by simp; omega)
      clear s5 o5
      have hS : (∀ o, V17.cell? ⟨bM, o, none⟩ = (#[.int .i64 Q, .slice p n c] : Array Value)[o]?) := KS.out _ o4
      refine hK.out _ _ hS (fun hS => ?_)
      clear hK K
      (try simp only [List.getElem_toArray]); (try simp only [List.getElem_cons_succ]); (try simp only [List.getElem_cons_zero]); (try simp only [Act.put]); (try simp only [List.setIfInBounds_toArray]); (try simp only [List.set_cons_succ]); (try simp only [List.set_cons_zero])
      refine wpAnyH_ready (rs := [6]) (by kernel_rfl) (by simp) ?_
      refine AllReadyH.cons (o := _) rfl (fun K hK => ?_) AllReadyH.nil
      rw [if_pos (by rfl)]
      go_simp
      go_at_call 29
      clear hS
      refine (spec_l1Pick b a cap zs _ _ [0, 1, 255, 256] [g4] _ sd (by omega) I4 (by simp) (by simp) (by simp; omega)).mono ?_
      rintro e V18 ⟨by', rfl, -, s5, o5⟩
      replace sd := s5
      replace o4 := o4.trans (o5.mono (fun y hy => by simp at hy ⊢; exact .inl hy))
      replace Yd := Yd.off o5 (by simp; omega)
      try replace I7 := Ints.off I7 o5 (by simp; omega)
      clear s5 o5
      have hS : (∀ o, V18.cell? ⟨bM, o, none⟩ = (#[.int .i64 Q, .slice p n c] : Array Value)[o]?) := KS.out _ o4
      refine hK.out _ _ hS (fun hS => ?_)
      clear hK K
      (try simp only [List.getElem_toArray]); (try simp only [List.getElem_cons_succ]); (try simp only [List.getElem_cons_zero]); (try simp only [Act.put]); (try simp only [List.setIfInBounds_toArray]); (try simp only [List.set_cons_succ]); (try simp only [List.set_cons_zero])
      refine wpAnyH_ready (rs := [7]) (by kernel_rfl) (by simp) ?_
      refine AllReadyH.cons (o := _) rfl (fun K hK => ?_) AllReadyH.nil
      have ya := Yd.at.1
      have yb := Yd.at.2
      rw [if_pos (by rfl)]
      go_simp
      clear hS
      have OO : ∀ V, Off [w.heap.size] V18 V → (∃ (u : Value) (x : MMirror) (who_1 by_1 : Int), Ending.returned (.tuple #[.agg #[.int .i64 Q, .slice p n c], .int .i64 who, .int .i64 by']) = .returned (.tuple #[u, .int .i64 who_1, .int .i64 by_1]) ∧ (∀ V' cs, Off cs V V' → (∀ z ∈ cs, z < w.heap.size) → RdMirror V' u x) ∧ Below w.heap.size w V) := fun V OO => ⟨_, _, who, by', rfl, fun V' cs o' hc => HRD.out V' ([b, w.heap.size] ++ cs) (((o4.trans (OO.mono (fun y hy => by simp at hy ⊢; exact .inr hy))).mono (fun y hy => List.mem_append_left _ hy)).trans (o'.mono (fun y hy => List.mem_append_right _ hy))) (fun z hz => by rcases List.mem_append.1 hz with h | h; (simp at h; omega); (have := hc z h; omega)), B4.trans ((o4.trans (OO.mono (fun y hy => by simp at hy ⊢; exact .inr hy))).toBelow B4.size (fun y hy => by simp at hy; omega))⟩
      have ow : Off [w.heap.size] V18 ((V18.setCell ⟨w.heap.size, 0, none⟩ (.int .i64 Q)).setCell ⟨w.heap.size, 1, none⟩ (.slice p n c)) := ((Off.refl _ _).setCell _ _ (by simp)).setCell _ _ (by simp)
      have hS : (∀ o, ((V18.setCell ⟨w.heap.size, 0, none⟩ (.int .i64 Q)).setCell ⟨w.heap.size, 1, none⟩ (.slice p n c)).cell? ⟨bM, o, none⟩ = (#[.int .i64 Q, .slice p n c] : Array Value)[o]?) := KS.out _ (o4.trans (ow.mono (fun y hy => by simp at hy ⊢; exact .inr hy)))
      refine hK.out _ _ hS (fun hS => ?_)
      clear hK K
      (try simp only [List.getElem_toArray]); (try simp only [List.getElem_cons_succ]); (try simp only [List.getElem_cons_zero]); (try simp only [Act.put]); (try simp only [List.setIfInBounds_toArray]); (try simp only [List.set_cons_succ]); (try simp only [List.set_cons_zero])
      refine wpAnyH_take (i := 8) (v := ?vn19) rfl (by kernel_rfl) (by kernel_rfl) (by kernel_rfl) (fun _ _ _ h => h) (Or.inl ⟨by rfl, ?hn19⟩) hS ?rn19
      case hn19 => intro w' hSw; go_simp; (try with_reducible rfl)
      (try simp only [List.getElem_toArray]); (try simp only [List.getElem_cons_succ]); (try simp only [List.getElem_cons_zero]); (try simp only [Act.put]); (try simp only [List.setIfInBounds_toArray]); (try simp only [List.set_cons_succ]); (try simp only [List.set_cons_zero])
      refine wpAnyH_take (i := 9) (v := ?vn20) rfl (by kernel_rfl) (by kernel_rfl) (by kernel_rfl) (fun _ _ _ h => h) (Or.inl ⟨by rfl, ?hn20⟩) hS ?rn20
      case hn20 => intro w' hSw; go_simp; (try with_reducible rfl)
      (try simp only [List.getElem_toArray]); (try simp only [List.getElem_cons_succ]); (try simp only [List.getElem_cons_zero]); (try simp only [Act.put]); (try simp only [List.setIfInBounds_toArray]); (try simp only [List.set_cons_succ]); (try simp only [List.set_cons_zero])
      refine wpAnyH_done (by kernel_rfl) ?_ _
      clear hS
      go_wp2
      exact bodyPost_ret (v := .tuple #[.agg #[.int .i64 Q, .slice p n c], .int .i64 who, .int .i64 by']) (by simp [results, Try.results17, go_sem, ya]) rfl (OO _ (((Off.refl _ _).setCell _ _ (by simp)).setCell _ _ (by simp)))
  · go_wp2_with fail
    refine (spec_l3Bent b a cap zs _ 256 _ s4 (by omega) (by omega)).mono ?_
    rintro e w6 ⟨u, rfl, x6, hRS, -, ⟨j6, hj6, s6⟩, o6⟩
    obtain ⟨p6, c6, hu, -⟩ := hRS w6 [] (Off.refl _ _) (fun z hz => by cases hz)
    subst hu
    generalize x6.xQ = Q6 at *
    generalize x6.xViews.length = n6 at *
    have Y6 := Y4.off o6 (by simp; omega)
    have M6 := M4.off o6 (by simp; omega)
    have B6 := B4.trans (o6.toBelow B4.size (by simp; omega))
    have hM4 : bM < w4.heap.size := M4.lt
    have hM6 := M6.lt
    have z6 := o6.size
    have M7 := (M6.set 0 (.int .i64 Q6)).set 1 (.slice p6 n6 c6)
    have O7 : Off [bM] w6 ((w6.setCell ⟨bM, 0, none⟩ (.int .i64 Q6)).setCell ⟨bM, 1, none⟩ (.slice p6 n6 c6)) := ((Off.refl _ _).setCell _ _ (by simp)).setCell _ _ (by simp)
    have Y7 := Y6.off O7 (by simp; omega)
    have s7 := s6.off O7 (fun y hy => by simp at hy; omega)
    have B7 := B6.trans (O7.toBelow B6.size (by simp; omega))
    have HR7 : Hid (∀ V cs, Off cs ((w6.setCell ⟨bM, 0, none⟩ (.int .i64 Q6)).setCell ⟨bM, 1, none⟩ (.slice p6 n6 c6)) V → (∀ z ∈ cs, z ≤ b) → RdMirror V (.agg #[.int .i64 Q6, .slice p6 n6 c6]) x6) := fun V cs o hc => hRS V ([bM] ++ cs) ((O7.mono (fun y hy => List.mem_append_left _ hy)).trans (o.mono (fun y hy => List.mem_append_right _ hy))) (fun z hz => by rcases List.mem_append.1 hz with h | h; (simp at h; omega); (have := hc z h; omega))
    have m1 := M6.at.1
    have m2 := M6.at.2
    clear hRS HRD Y4 M4 B4 s4 Y6 B6 s6 O7 M6
    go_wp2_with fail
    clear m1 m2
    simp only [Array.setIfInBounds, List.size_toArray, List.length_cons, List.length_nil] at M7
    obtain ⟨wz, hwz⟩ : ∃ y, y = (w6.setCell ⟨bM, 0, none⟩ (.int .i64 Q6)).setCell ⟨bM, 1, none⟩ (.slice p6 n6 c6) := ⟨_, rfl⟩
    rw [← hwz] at M7 Y7 s7 B7 HR7 ⊢
    clear hwz o6 z6
    have M4 : Blk wz bM 37 #[.int .i64 Q6, .slice p6 n6 c6] := by simpa using M7
    have Y4 := Y7
    have s4 := s7
    have B4 := B7
    have HRD := HR7
    clear M7 Y7 s7 B7 HR7
    have ma := M4.at.1
    have KS : Hid (∀ V, Off [b, w.heap.size] wz V → ∀ o, V.cell? ⟨bM, o, none⟩ = (#[.int .i64 Q6, .slice p6 n6 c6] : Array Value)[o]?) := fun V o => (M4.off o (by simp; omega)).at.1
    have o4 : Off [b, w.heap.size] wz (wz).drew := (Off.refl _ _).drew
    have sd := s4.keep (Below.refl _ _).drew
    have zb4 := s4.blk.lt
    have yl4 := Y4.lt
    have zM4 := M4.lt
    have Yd := Y4.drew
    have tk0 : Hid True := trivial
    skip
    refine wp_region_held (S := fun V => (∀ o, V.cell? ⟨bM, o, none⟩ = (#[.int .i64 Q6, .slice p6 n6 c6] : Array Value)[o]?)) (by kernel_rfl) ?_
    try (change wpAnyH _ _ _ _ _ _ _ _ (World.drew _))
    have hS : (∀ o, wz.drew.cell? ⟨bM, o, none⟩ = (#[.int .i64 Q6, .slice p6 n6 c6] : Array Value)[o]?) := KS.out _ o4
    generalize wz.drew = wd at sd o4 Yd hS ⊢
    refine wpAnyH_take (i := 0) (v := ?vn21) rfl (by kernel_rfl) (by kernel_rfl) (by kernel_rfl) (fun _ _ _ h => h) (Or.inl ⟨by rfl, ?hn21⟩) hS ?rn21
    case hn21 => intro w' hSw; go_simp; (try with_reducible rfl)
    (try simp only [List.getElem_toArray]); (try simp only [List.getElem_cons_succ]); (try simp only [List.getElem_cons_zero]); (try simp only [Act.put]); (try simp only [List.setIfInBounds_toArray]); (try simp only [List.set_cons_succ]); (try simp only [List.set_cons_zero])
    refine wpAnyH_take (i := 1) (v := ?vn22) rfl (by kernel_rfl) (by kernel_rfl) (by kernel_rfl) (fun _ _ _ h => h) (Or.inl ⟨by rfl, ?hn22⟩) hS ?rn22
    case hn22 => intro w' hSw; go_simp; (try with_reducible rfl)
    (try simp only [List.getElem_toArray]); (try simp only [List.getElem_cons_succ]); (try simp only [List.getElem_cons_zero]); (try simp only [Act.put]); (try simp only [List.setIfInBounds_toArray]); (try simp only [List.set_cons_succ]); (try simp only [List.set_cons_zero])
    refine wpAnyH_take (i := 4) (v := ?vn23) rfl (by kernel_rfl) (by kernel_rfl) (by kernel_rfl) (fun _ _ _ h => h) (Or.inl ⟨by rfl, ?hn23⟩) hS ?rn23
    case hn23 => intro w' hSw; go_simp; (try with_reducible rfl)
    (try simp only [List.getElem_toArray]); (try simp only [List.getElem_cons_succ]); (try simp only [List.getElem_cons_zero]); (try simp only [Act.put]); (try simp only [List.setIfInBounds_toArray]); (try simp only [List.set_cons_succ]); (try simp only [List.set_cons_zero])
    refine wpAnyH_ready (rs := [2, 5]) (by kernel_rfl) (by simp) ?_
    refine AllReadyH.cons (o := _) rfl (fun K hK => ?_) (AllReadyH.cons (o := _) rfl (fun K hK => ?_) AllReadyH.nil)
    · skip
      have hg7 : b < wd.heap.size := by have := zb4; have := o4.size; omega
      rw [if_pos (by rfl)]
      go_simp
      clear hS
      have I7 : Ints (wd.alloc (.cells #[.int .i64 (-1), .int .i64 0, .int .i64 1, .int .i64 1, .int .i64 2, .int .i64 3, .int .i64 4] 2)) (.slice (some ⟨wd.heap.size, 0, none⟩) 7 7) [-1, 0, 1, 1, 2, 3, 4] [wd.heap.size] := by exact Ints.lit wd _ [-1, 0, 1, 1, 2, 3, 4] 7 rfl rfl (by omega)
      replace sd := sd.alloc (.cells #[.int .i64 (-1), .int .i64 0, .int .i64 1, .int .i64 1, .int .i64 2, .int .i64 3, .int .i64 4] 2)
      replace o4 := o4.alloc (.cells #[.int .i64 (-1), .int .i64 0, .int .i64 1, .int .i64 1, .int .i64 2, .int .i64 3, .int .i64 4] 2)
      replace Yd := Yd.alloc (.cells #[.int .i64 (-1), .int .i64 0, .int .i64 1, .int .i64 1, .int .i64 2, .int .i64 3, .int .i64 4] 2)
      try replace I4 := Ints.alloc I4 (.cells #[.int .i64 (-1), .int .i64 0, .int .i64 1, .int .i64 1, .int .i64 2, .int .i64 3, .int .i64 4] 2)
      have hS : (∀ o, (wd.alloc (.cells #[.int .i64 (-1), .int .i64 0, .int .i64 1, .int .i64 1, .int .i64 2, .int .i64 3, .int .i64 4] 2)).cell? ⟨bM, o, none⟩ = (#[.int .i64 Q6, .slice p6 n6 c6] : Array Value)[o]?) := KS.out _ o4
      refine hK.out _ _ hS (fun hS => ?_)
      clear hK K
      (try simp only [List.getElem_toArray]); (try simp only [List.getElem_cons_succ]); (try simp only [List.getElem_cons_zero]); (try simp only [Act.put]); (try simp only [List.setIfInBounds_toArray]); (try simp only [List.set_cons_succ]); (try simp only [List.set_cons_zero])
      generalize wd.heap.size = g7 at *
      generalize wd.alloc (.cells #[.int .i64 (-1), .int .i64 0, .int .i64 1, .int .i64 1, .int .i64 2, .int .i64 3, .int .i64 4] 2) = V24 at *
      refine wpAnyH_ready (rs := [3, 5]) (by kernel_rfl) (by simp) ?_
      refine AllReadyH.cons (o := _) rfl (fun K hK => ?_) (AllReadyH.cons (o := _) rfl (fun K hK => ?_) AllReadyH.nil)
      · skip
        rw [if_pos (by rfl)]
        go_simp
        go_at_call 29
        clear hS
        refine (spec_l1Pick b a cap zs _ _ [-1, 0, 1, 1, 2, 3, 4] [g7] _ sd (by omega) I7 (by simp) (by simp) (by simp; omega)).mono ?_
        rintro e V25 ⟨who, rfl, -, s5, o5⟩
        replace sd := s5
        replace o4 := o4.trans (o5.mono (fun y hy => by simp at hy ⊢; exact .inl hy))
        replace Yd := Yd.off o5 (by simp; omega)
        try replace I4 := Ints.off I4 o5 (by simp; omega)
        clear s5 o5
        have hS : (∀ o, V25.cell? ⟨bM, o, none⟩ = (#[.int .i64 Q6, .slice p6 n6 c6] : Array Value)[o]?) := KS.out _ o4
        refine hK.out _ _ hS (fun hS => ?_)
        clear hK K
        (try simp only [List.getElem_toArray]); (try simp only [List.getElem_cons_succ]); (try simp only [List.getElem_cons_zero]); (try simp only [Act.put]); (try simp only [List.setIfInBounds_toArray]); (try simp only [List.set_cons_succ]); (try simp only [List.set_cons_zero])
        refine wpAnyH_ready (rs := [5]) (by kernel_rfl) (by simp) ?_
        refine AllReadyH.cons (o := _) rfl (fun K hK => ?_) AllReadyH.nil
        have hg4 : b < V25.heap.size := by have := zb4; have := o4.size; omega
        rw [if_pos (by rfl)]
        go_simp
        clear hS
        have I4 : Ints (V25.alloc (.cells #[.int .i64 0, .int .i64 1, .int .i64 255, .int .i64 256] 2)) (.slice (some ⟨V25.heap.size, 0, none⟩) 4 4) [0, 1, 255, 256] [V25.heap.size] := by exact Ints.lit V25 _ [0, 1, 255, 256] 4 rfl rfl (by omega)
        replace sd := sd.alloc (.cells #[.int .i64 0, .int .i64 1, .int .i64 255, .int .i64 256] 2)
        replace o4 := o4.alloc (.cells #[.int .i64 0, .int .i64 1, .int .i64 255, .int .i64 256] 2)
        replace Yd := Yd.alloc (.cells #[.int .i64 0, .int .i64 1, .int .i64 255, .int .i64 256] 2)
        try replace I7 := Ints.alloc I7 (.cells #[.int .i64 0, .int .i64 1, .int .i64 255, .int .i64 256] 2)
        have hS : (∀ o, (V25.alloc (.cells #[.int .i64 0, .int .i64 1, .int .i64 255, .int .i64 256] 2)).cell? ⟨bM, o, none⟩ = (#[.int .i64 Q6, .slice p6 n6 c6] : Array Value)[o]?) := KS.out _ o4
        refine hK.out _ _ hS (fun hS => ?_)
        clear hK K
        (try simp only [List.getElem_toArray]); (try simp only [List.getElem_cons_succ]); (try simp only [List.getElem_cons_zero]); (try simp only [Act.put]); (try simp only [List.setIfInBounds_toArray]); (try simp only [List.set_cons_succ]); (try simp only [List.set_cons_zero])
        generalize V25.heap.size = g4 at *
        generalize V25.alloc (.cells #[.int .i64 0, .int .i64 1, .int .i64 255, .int .i64 256] 2) = V26 at *
        refine wpAnyH_ready (rs := [6]) (by kernel_rfl) (by simp) ?_
        refine AllReadyH.cons (o := _) rfl (fun K hK => ?_) AllReadyH.nil
        rw [if_pos (by rfl)]
        go_simp
        go_at_call 29
        clear hS
        refine (spec_l1Pick b a cap zs _ _ [0, 1, 255, 256] [g4] _ sd (by omega) I4 (by simp) (by simp) (by simp; omega)).mono ?_
        rintro e V27 ⟨by', rfl, -, s5, o5⟩
        replace sd := s5
        replace o4 := o4.trans (o5.mono (fun y hy => by simp at hy ⊢; exact .inl hy))
        replace Yd := Yd.off o5 (by simp; omega)
        try replace I7 := Ints.off I7 o5 (by simp; omega)
        clear s5 o5
        have hS : (∀ o, V27.cell? ⟨bM, o, none⟩ = (#[.int .i64 Q6, .slice p6 n6 c6] : Array Value)[o]?) := KS.out _ o4
        refine hK.out _ _ hS (fun hS => ?_)
        clear hK K
        (try simp only [List.getElem_toArray]); (try simp only [List.getElem_cons_succ]); (try simp only [List.getElem_cons_zero]); (try simp only [Act.put]); (try simp only [List.setIfInBounds_toArray]); (try simp only [List.set_cons_succ]); (try simp only [List.set_cons_zero])
        refine wpAnyH_ready (rs := [7]) (by kernel_rfl) (by simp) ?_
        refine AllReadyH.cons (o := _) rfl (fun K hK => ?_) AllReadyH.nil
        have ya := Yd.at.1
        have yb := Yd.at.2
        rw [if_pos (by rfl)]
        go_simp
        clear hS
        have OO : ∀ V, Off [w.heap.size] V27 V → (∃ (u : Value) (x : MMirror) (who_1 by_1 : Int), Ending.returned (.tuple #[.agg #[.int .i64 Q6, .slice p6 n6 c6], .int .i64 who, .int .i64 by']) = .returned (.tuple #[u, .int .i64 who_1, .int .i64 by_1]) ∧ (∀ V' cs, Off cs V V' → (∀ z ∈ cs, z < w.heap.size) → RdMirror V' u x) ∧ Below w.heap.size w V) := fun V OO => ⟨_, _, who, by', rfl, fun V' cs o' hc => HRD.out V' ([b, w.heap.size] ++ cs) (((o4.trans (OO.mono (fun y hy => by simp at hy ⊢; exact .inr hy))).mono (fun y hy => List.mem_append_left _ hy)).trans (o'.mono (fun y hy => List.mem_append_right _ hy))) (fun z hz => by rcases List.mem_append.1 hz with h | h; (simp at h; omega); (have := hc z h; omega)), B4.trans ((o4.trans (OO.mono (fun y hy => by simp at hy ⊢; exact .inr hy))).toBelow B4.size (fun y hy => by simp at hy; omega))⟩
        have ow : Off [w.heap.size] V27 ((V27.setCell ⟨w.heap.size, 0, none⟩ (.int .i64 Q6)).setCell ⟨w.heap.size, 1, none⟩ (.slice p6 n6 c6)) := ((Off.refl _ _).setCell _ _ (by simp)).setCell _ _ (by simp)
        have hS : (∀ o, ((V27.setCell ⟨w.heap.size, 0, none⟩ (.int .i64 Q6)).setCell ⟨w.heap.size, 1, none⟩ (.slice p6 n6 c6)).cell? ⟨bM, o, none⟩ = (#[.int .i64 Q6, .slice p6 n6 c6] : Array Value)[o]?) := KS.out _ (o4.trans (ow.mono (fun y hy => by simp at hy ⊢; exact .inr hy)))
        refine hK.out _ _ hS (fun hS => ?_)
        clear hK K
        (try simp only [List.getElem_toArray]); (try simp only [List.getElem_cons_succ]); (try simp only [List.getElem_cons_zero]); (try simp only [Act.put]); (try simp only [List.setIfInBounds_toArray]); (try simp only [List.set_cons_succ]); (try simp only [List.set_cons_zero])
        refine wpAnyH_take (i := 8) (v := ?vn28) rfl (by kernel_rfl) (by kernel_rfl) (by kernel_rfl) (fun _ _ _ h => h) (Or.inl ⟨by rfl, ?hn28⟩) hS ?rn28
        case hn28 => intro w' hSw; go_simp; (try with_reducible rfl)
        (try simp only [List.getElem_toArray]); (try simp only [List.getElem_cons_succ]); (try simp only [List.getElem_cons_zero]); (try simp only [Act.put]); (try simp only [List.setIfInBounds_toArray]); (try simp only [List.set_cons_succ]); (try simp only [List.set_cons_zero])
        refine wpAnyH_take (i := 9) (v := ?vn29) rfl (by kernel_rfl) (by kernel_rfl) (by kernel_rfl) (fun _ _ _ h => h) (Or.inl ⟨by rfl, ?hn29⟩) hS ?rn29
        case hn29 => intro w' hSw; go_simp; (try with_reducible rfl)
        (try simp only [List.getElem_toArray]); (try simp only [List.getElem_cons_succ]); (try simp only [List.getElem_cons_zero]); (try simp only [Act.put]); (try simp only [List.setIfInBounds_toArray]); (try simp only [List.set_cons_succ]); (try simp only [List.set_cons_zero])
        refine wpAnyH_done (by kernel_rfl) ?_ _
        clear hS
        go_wp2
        exact bodyPost_ret (v := .tuple #[.agg #[.int .i64 Q6, .slice p6 n6 c6], .int .i64 who, .int .i64 by']) (by simp [results, Try.results17, go_sem, ya]) rfl (OO _ (((Off.refl _ _).setCell _ _ (by simp)).setCell _ _ (by simp)))
      · skip
        have hg4 : b < V24.heap.size := by have := zb4; have := o4.size; omega
        rw [if_pos (by rfl)]
        go_simp
        clear hS
        have I4 : Ints (V24.alloc (.cells #[.int .i64 0, .int .i64 1, .int .i64 255, .int .i64 256] 2)) (.slice (some ⟨V24.heap.size, 0, none⟩) 4 4) [0, 1, 255, 256] [V24.heap.size] := by exact Ints.lit V24 _ [0, 1, 255, 256] 4 rfl rfl (by omega)
        replace sd := sd.alloc (.cells #[.int .i64 0, .int .i64 1, .int .i64 255, .int .i64 256] 2)
        replace o4 := o4.alloc (.cells #[.int .i64 0, .int .i64 1, .int .i64 255, .int .i64 256] 2)
        replace Yd := Yd.alloc (.cells #[.int .i64 0, .int .i64 1, .int .i64 255, .int .i64 256] 2)
        try replace I7 := Ints.alloc I7 (.cells #[.int .i64 0, .int .i64 1, .int .i64 255, .int .i64 256] 2)
        have hS : (∀ o, (V24.alloc (.cells #[.int .i64 0, .int .i64 1, .int .i64 255, .int .i64 256] 2)).cell? ⟨bM, o, none⟩ = (#[.int .i64 Q6, .slice p6 n6 c6] : Array Value)[o]?) := KS.out _ o4
        refine hK.out _ _ hS (fun hS => ?_)
        clear hK K
        (try simp only [List.getElem_toArray]); (try simp only [List.getElem_cons_succ]); (try simp only [List.getElem_cons_zero]); (try simp only [Act.put]); (try simp only [List.setIfInBounds_toArray]); (try simp only [List.set_cons_succ]); (try simp only [List.set_cons_zero])
        generalize V24.heap.size = g4 at *
        generalize V24.alloc (.cells #[.int .i64 0, .int .i64 1, .int .i64 255, .int .i64 256] 2) = V30 at *
        refine wpAnyH_ready (rs := [3]) (by kernel_rfl) (by simp) ?_
        refine AllReadyH.cons (o := _) rfl (fun K hK => ?_) AllReadyH.nil
        rw [if_pos (by rfl)]
        go_simp
        go_at_call 29
        clear hS
        refine (spec_l1Pick b a cap zs _ _ [-1, 0, 1, 1, 2, 3, 4] [g7] _ sd (by omega) I7 (by simp) (by simp) (by simp; omega)).mono ?_
        rintro e V31 ⟨who, rfl, -, s5, o5⟩
        replace sd := s5
        replace o4 := o4.trans (o5.mono (fun y hy => by simp at hy ⊢; exact .inl hy))
        replace Yd := Yd.off o5 (by simp; omega)
        try replace I4 := Ints.off I4 o5 (by simp; omega)
        clear s5 o5
        have hS : (∀ o, V31.cell? ⟨bM, o, none⟩ = (#[.int .i64 Q6, .slice p6 n6 c6] : Array Value)[o]?) := KS.out _ o4
        refine hK.out _ _ hS (fun hS => ?_)
        clear hK K
        (try simp only [List.getElem_toArray]); (try simp only [List.getElem_cons_succ]); (try simp only [List.getElem_cons_zero]); (try simp only [Act.put]); (try simp only [List.setIfInBounds_toArray]); (try simp only [List.set_cons_succ]); (try simp only [List.set_cons_zero])
        refine wpAnyH_ready (rs := [6]) (by kernel_rfl) (by simp) ?_
        refine AllReadyH.cons (o := _) rfl (fun K hK => ?_) AllReadyH.nil
        rw [if_pos (by rfl)]
        go_simp
        go_at_call 29
        clear hS
        refine (spec_l1Pick b a cap zs _ _ [0, 1, 255, 256] [g4] _ sd (by omega) I4 (by simp) (by simp) (by simp; omega)).mono ?_
        rintro e V32 ⟨by', rfl, -, s5, o5⟩
        replace sd := s5
        replace o4 := o4.trans (o5.mono (fun y hy => by simp at hy ⊢; exact .inl hy))
        replace Yd := Yd.off o5 (by simp; omega)
        try replace I7 := Ints.off I7 o5 (by simp; omega)
        clear s5 o5
        have hS : (∀ o, V32.cell? ⟨bM, o, none⟩ = (#[.int .i64 Q6, .slice p6 n6 c6] : Array Value)[o]?) := KS.out _ o4
        refine hK.out _ _ hS (fun hS => ?_)
        clear hK K
        (try simp only [List.getElem_toArray]); (try simp only [List.getElem_cons_succ]); (try simp only [List.getElem_cons_zero]); (try simp only [Act.put]); (try simp only [List.setIfInBounds_toArray]); (try simp only [List.set_cons_succ]); (try simp only [List.set_cons_zero])
        refine wpAnyH_ready (rs := [7]) (by kernel_rfl) (by simp) ?_
        refine AllReadyH.cons (o := _) rfl (fun K hK => ?_) AllReadyH.nil
        have ya := Yd.at.1
        have yb := Yd.at.2
        rw [if_pos (by rfl)]
        go_simp
        clear hS
        have OO : ∀ V, Off [w.heap.size] V32 V → (∃ (u : Value) (x : MMirror) (who_1 by_1 : Int), Ending.returned (.tuple #[.agg #[.int .i64 Q6, .slice p6 n6 c6], .int .i64 who, .int .i64 by']) = .returned (.tuple #[u, .int .i64 who_1, .int .i64 by_1]) ∧ (∀ V' cs, Off cs V V' → (∀ z ∈ cs, z < w.heap.size) → RdMirror V' u x) ∧ Below w.heap.size w V) := fun V OO => ⟨_, _, who, by', rfl, fun V' cs o' hc => HRD.out V' ([b, w.heap.size] ++ cs) (((o4.trans (OO.mono (fun y hy => by simp at hy ⊢; exact .inr hy))).mono (fun y hy => List.mem_append_left _ hy)).trans (o'.mono (fun y hy => List.mem_append_right _ hy))) (fun z hz => by rcases List.mem_append.1 hz with h | h; (simp at h; omega); (have := hc z h; omega)), B4.trans ((o4.trans (OO.mono (fun y hy => by simp at hy ⊢; exact .inr hy))).toBelow B4.size (fun y hy => by simp at hy; omega))⟩
        have ow : Off [w.heap.size] V32 ((V32.setCell ⟨w.heap.size, 0, none⟩ (.int .i64 Q6)).setCell ⟨w.heap.size, 1, none⟩ (.slice p6 n6 c6)) := ((Off.refl _ _).setCell _ _ (by simp)).setCell _ _ (by simp)
        have hS : (∀ o, ((V32.setCell ⟨w.heap.size, 0, none⟩ (.int .i64 Q6)).setCell ⟨w.heap.size, 1, none⟩ (.slice p6 n6 c6)).cell? ⟨bM, o, none⟩ = (#[.int .i64 Q6, .slice p6 n6 c6] : Array Value)[o]?) := KS.out _ (o4.trans (ow.mono (fun y hy => by simp at hy ⊢; exact .inr hy)))
        refine hK.out _ _ hS (fun hS => ?_)
        clear hK K
        (try simp only [List.getElem_toArray]); (try simp only [List.getElem_cons_succ]); (try simp only [List.getElem_cons_zero]); (try simp only [Act.put]); (try simp only [List.setIfInBounds_toArray]); (try simp only [List.set_cons_succ]); (try simp only [List.set_cons_zero])
        refine wpAnyH_take (i := 8) (v := ?vn33) rfl (by kernel_rfl) (by kernel_rfl) (by kernel_rfl) (fun _ _ _ h => h) (Or.inl ⟨by rfl, ?hn33⟩) hS ?rn33
        case hn33 => intro w' hSw; go_simp; (try with_reducible rfl)
        (try simp only [List.getElem_toArray]); (try simp only [List.getElem_cons_succ]); (try simp only [List.getElem_cons_zero]); (try simp only [Act.put]); (try simp only [List.setIfInBounds_toArray]); (try simp only [List.set_cons_succ]); (try simp only [List.set_cons_zero])
        refine wpAnyH_take (i := 9) (v := ?vn34) rfl (by kernel_rfl) (by kernel_rfl) (by kernel_rfl) (fun _ _ _ h => h) (Or.inl ⟨by rfl, ?hn34⟩) hS ?rn34
        case hn34 => intro w' hSw; go_simp; (try with_reducible rfl)
        (try simp only [List.getElem_toArray]); (try simp only [List.getElem_cons_succ]); (try simp only [List.getElem_cons_zero]); (try simp only [Act.put]); (try simp only [List.setIfInBounds_toArray]); (try simp only [List.set_cons_succ]); (try simp only [List.set_cons_zero])
        refine wpAnyH_done (by kernel_rfl) ?_ _
        clear hS
        go_wp2
        exact bodyPost_ret (v := .tuple #[.agg #[.int .i64 Q6, .slice p6 n6 c6], .int .i64 who, .int .i64 by']) (by simp [results, Try.results17, go_sem, ya]) rfl (OO _ (((Off.refl _ _).setCell _ _ (by simp)).setCell _ _ (by simp)))
    · skip
      have hg4 : b < wd.heap.size := by have := zb4; have := o4.size; omega
      rw [if_pos (by rfl)]
      go_simp
      clear hS
      have I4 : Ints (wd.alloc (.cells #[.int .i64 0, .int .i64 1, .int .i64 255, .int .i64 256] 2)) (.slice (some ⟨wd.heap.size, 0, none⟩) 4 4) [0, 1, 255, 256] [wd.heap.size] := by exact Ints.lit wd _ [0, 1, 255, 256] 4 rfl rfl (by omega)
      replace sd := sd.alloc (.cells #[.int .i64 0, .int .i64 1, .int .i64 255, .int .i64 256] 2)
      replace o4 := o4.alloc (.cells #[.int .i64 0, .int .i64 1, .int .i64 255, .int .i64 256] 2)
      replace Yd := Yd.alloc (.cells #[.int .i64 0, .int .i64 1, .int .i64 255, .int .i64 256] 2)
      try replace I7 := Ints.alloc I7 (.cells #[.int .i64 0, .int .i64 1, .int .i64 255, .int .i64 256] 2)
      have hS : (∀ o, (wd.alloc (.cells #[.int .i64 0, .int .i64 1, .int .i64 255, .int .i64 256] 2)).cell? ⟨bM, o, none⟩ = (#[.int .i64 Q6, .slice p6 n6 c6] : Array Value)[o]?) := KS.out _ o4
      refine hK.out _ _ hS (fun hS => ?_)
      clear hK K
      (try simp only [List.getElem_toArray]); (try simp only [List.getElem_cons_succ]); (try simp only [List.getElem_cons_zero]); (try simp only [Act.put]); (try simp only [List.setIfInBounds_toArray]); (try simp only [List.set_cons_succ]); (try simp only [List.set_cons_zero])
      generalize wd.heap.size = g4 at *
      generalize wd.alloc (.cells #[.int .i64 0, .int .i64 1, .int .i64 255, .int .i64 256] 2) = V35 at *
      refine wpAnyH_ready (rs := [2]) (by kernel_rfl) (by simp) ?_
      refine AllReadyH.cons (o := _) rfl (fun K hK => ?_) AllReadyH.nil
      have hg7 : b < V35.heap.size := by have := zb4; have := o4.size; omega
      rw [if_pos (by rfl)]
      go_simp
      clear hS
      have I7 : Ints (V35.alloc (.cells #[.int .i64 (-1), .int .i64 0, .int .i64 1, .int .i64 1, .int .i64 2, .int .i64 3, .int .i64 4] 2)) (.slice (some ⟨V35.heap.size, 0, none⟩) 7 7) [-1, 0, 1, 1, 2, 3, 4] [V35.heap.size] := by exact Ints.lit V35 _ [-1, 0, 1, 1, 2, 3, 4] 7 rfl rfl (by omega)
      replace sd := sd.alloc (.cells #[.int .i64 (-1), .int .i64 0, .int .i64 1, .int .i64 1, .int .i64 2, .int .i64 3, .int .i64 4] 2)
      replace o4 := o4.alloc (.cells #[.int .i64 (-1), .int .i64 0, .int .i64 1, .int .i64 1, .int .i64 2, .int .i64 3, .int .i64 4] 2)
      replace Yd := Yd.alloc (.cells #[.int .i64 (-1), .int .i64 0, .int .i64 1, .int .i64 1, .int .i64 2, .int .i64 3, .int .i64 4] 2)
      try replace I4 := Ints.alloc I4 (.cells #[.int .i64 (-1), .int .i64 0, .int .i64 1, .int .i64 1, .int .i64 2, .int .i64 3, .int .i64 4] 2)
      have hS : (∀ o, (V35.alloc (.cells #[.int .i64 (-1), .int .i64 0, .int .i64 1, .int .i64 1, .int .i64 2, .int .i64 3, .int .i64 4] 2)).cell? ⟨bM, o, none⟩ = (#[.int .i64 Q6, .slice p6 n6 c6] : Array Value)[o]?) := KS.out _ o4
      refine hK.out _ _ hS (fun hS => ?_)
      clear hK K
      (try simp only [List.getElem_toArray]); (try simp only [List.getElem_cons_succ]); (try simp only [List.getElem_cons_zero]); (try simp only [Act.put]); (try simp only [List.setIfInBounds_toArray]); (try simp only [List.set_cons_succ]); (try simp only [List.set_cons_zero])
      generalize V35.heap.size = g7 at *
      generalize V35.alloc (.cells #[.int .i64 (-1), .int .i64 0, .int .i64 1, .int .i64 1, .int .i64 2, .int .i64 3, .int .i64 4] 2) = V36 at *
      refine wpAnyH_ready (rs := [3]) (by kernel_rfl) (by simp) ?_
      refine AllReadyH.cons (o := _) rfl (fun K hK => ?_) AllReadyH.nil
      rw [if_pos (by rfl)]
      go_simp
      go_at_call 29
      clear hS
      refine (spec_l1Pick b a cap zs _ _ [-1, 0, 1, 1, 2, 3, 4] [g7] _ sd (by omega) I7 (by simp) (by simp) (by simp; omega)).mono ?_
      rintro e V37 ⟨who, rfl, -, s5, o5⟩
      replace sd := s5
      replace o4 := o4.trans (o5.mono (fun y hy => by simp at hy ⊢; exact .inl hy))
      replace Yd := Yd.off o5 (by simp; omega)
      try replace I4 := Ints.off I4 o5 (by simp; omega)
      clear s5 o5
      have hS : (∀ o, V37.cell? ⟨bM, o, none⟩ = (#[.int .i64 Q6, .slice p6 n6 c6] : Array Value)[o]?) := KS.out _ o4
      refine hK.out _ _ hS (fun hS => ?_)
      clear hK K
      (try simp only [List.getElem_toArray]); (try simp only [List.getElem_cons_succ]); (try simp only [List.getElem_cons_zero]); (try simp only [Act.put]); (try simp only [List.setIfInBounds_toArray]); (try simp only [List.set_cons_succ]); (try simp only [List.set_cons_zero])
      refine wpAnyH_ready (rs := [6]) (by kernel_rfl) (by simp) ?_
      refine AllReadyH.cons (o := _) rfl (fun K hK => ?_) AllReadyH.nil
      rw [if_pos (by rfl)]
      go_simp
      go_at_call 29
      clear hS
      refine (spec_l1Pick b a cap zs _ _ [0, 1, 255, 256] [g4] _ sd (by omega) I4 (by simp) (by simp) (by simp; omega)).mono ?_
      rintro e V38 ⟨by', rfl, -, s5, o5⟩
      replace sd := s5
      replace o4 := o4.trans (o5.mono (fun y hy => by simp at hy ⊢; exact .inl hy))
      replace Yd := Yd.off o5 (by simp; omega)
      try replace I7 := Ints.off I7 o5 (by simp; omega)
      clear s5 o5
      have hS : (∀ o, V38.cell? ⟨bM, o, none⟩ = (#[.int .i64 Q6, .slice p6 n6 c6] : Array Value)[o]?) := KS.out _ o4
      refine hK.out _ _ hS (fun hS => ?_)
      clear hK K
      (try simp only [List.getElem_toArray]); (try simp only [List.getElem_cons_succ]); (try simp only [List.getElem_cons_zero]); (try simp only [Act.put]); (try simp only [List.setIfInBounds_toArray]); (try simp only [List.set_cons_succ]); (try simp only [List.set_cons_zero])
      refine wpAnyH_ready (rs := [7]) (by kernel_rfl) (by simp) ?_
      refine AllReadyH.cons (o := _) rfl (fun K hK => ?_) AllReadyH.nil
      have ya := Yd.at.1
      have yb := Yd.at.2
      rw [if_pos (by rfl)]
      go_simp
      clear hS
      have OO : ∀ V, Off [w.heap.size] V38 V → (∃ (u : Value) (x : MMirror) (who_1 by_1 : Int), Ending.returned (.tuple #[.agg #[.int .i64 Q6, .slice p6 n6 c6], .int .i64 who, .int .i64 by']) = .returned (.tuple #[u, .int .i64 who_1, .int .i64 by_1]) ∧ (∀ V' cs, Off cs V V' → (∀ z ∈ cs, z < w.heap.size) → RdMirror V' u x) ∧ Below w.heap.size w V) := fun V OO => ⟨_, _, who, by', rfl, fun V' cs o' hc => HRD.out V' ([b, w.heap.size] ++ cs) (((o4.trans (OO.mono (fun y hy => by simp at hy ⊢; exact .inr hy))).mono (fun y hy => List.mem_append_left _ hy)).trans (o'.mono (fun y hy => List.mem_append_right _ hy))) (fun z hz => by rcases List.mem_append.1 hz with h | h; (simp at h; omega); (have := hc z h; omega)), B4.trans ((o4.trans (OO.mono (fun y hy => by simp at hy ⊢; exact .inr hy))).toBelow B4.size (fun y hy => by simp at hy; omega))⟩
      have ow : Off [w.heap.size] V38 ((V38.setCell ⟨w.heap.size, 0, none⟩ (.int .i64 Q6)).setCell ⟨w.heap.size, 1, none⟩ (.slice p6 n6 c6)) := ((Off.refl _ _).setCell _ _ (by simp)).setCell _ _ (by simp)
      have hS : (∀ o, ((V38.setCell ⟨w.heap.size, 0, none⟩ (.int .i64 Q6)).setCell ⟨w.heap.size, 1, none⟩ (.slice p6 n6 c6)).cell? ⟨bM, o, none⟩ = (#[.int .i64 Q6, .slice p6 n6 c6] : Array Value)[o]?) := KS.out _ (o4.trans (ow.mono (fun y hy => by simp at hy ⊢; exact .inr hy)))
      refine hK.out _ _ hS (fun hS => ?_)
      clear hK K
      (try simp only [List.getElem_toArray]); (try simp only [List.getElem_cons_succ]); (try simp only [List.getElem_cons_zero]); (try simp only [Act.put]); (try simp only [List.setIfInBounds_toArray]); (try simp only [List.set_cons_succ]); (try simp only [List.set_cons_zero])
      refine wpAnyH_take (i := 8) (v := ?vn39) rfl (by kernel_rfl) (by kernel_rfl) (by kernel_rfl) (fun _ _ _ h => h) (Or.inl ⟨by rfl, ?hn39⟩) hS ?rn39
      case hn39 => intro w' hSw; go_simp; (try with_reducible rfl)
      (try simp only [List.getElem_toArray]); (try simp only [List.getElem_cons_succ]); (try simp only [List.getElem_cons_zero]); (try simp only [Act.put]); (try simp only [List.setIfInBounds_toArray]); (try simp only [List.set_cons_succ]); (try simp only [List.set_cons_zero])
      refine wpAnyH_take (i := 9) (v := ?vn40) rfl (by kernel_rfl) (by kernel_rfl) (by kernel_rfl) (fun _ _ _ h => h) (Or.inl ⟨by rfl, ?hn40⟩) hS ?rn40
      case hn40 => intro w' hSw; go_simp; (try with_reducible rfl)
      (try simp only [List.getElem_toArray]); (try simp only [List.getElem_cons_succ]); (try simp only [List.getElem_cons_zero]); (try simp only [Act.put]); (try simp only [List.setIfInBounds_toArray]); (try simp only [List.set_cons_succ]); (try simp only [List.set_cons_zero])
      refine wpAnyH_done (by kernel_rfl) ?_ _
      clear hS
      go_wp2
      exact bodyPost_ret (v := .tuple #[.agg #[.int .i64 Q6, .slice p6 n6 c6], .int .i64 who, .int .i64 by']) (by simp [results, Try.results17, go_sem, ya]) rfl (OO _ (((Off.refl _ _).setCell _ _ (by simp)).setCell _ _ (by simp)))
end Go.Proofs.Ytbmemdgeohnpnac
