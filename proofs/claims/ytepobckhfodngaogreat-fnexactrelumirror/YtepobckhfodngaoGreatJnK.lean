/-
  Copies of lists of lists and of nets: in the program and in its model.
-/
import Derived.Test.YtepobckhfodngaoGreatJnN
import Derived.Test.YtepobckhfodngaoGreatTapeC
namespace Go.Proofs.YtepobckhfodngaoGreat
open Go.ChangeShapes Go.WideShapes Go.ChangeAt Go.RowKit
set_option linter.unusedVariables false

set_option maxHeartbeats 1000000 in
theorem impl_copyOfLists (v : Value) (xss : List (List Int)) (w : World) (hv : ReadsM w v xss) (hl : xss.length ≤ 16777216) (hr : ∀ k, (xss.getD k []).length ≤ 16777216) :
    Calls Tryz.prog 68 #[v] w fun e w' => ∃ u b0, e = .returned u ∧ Mat w' u xss b0 ∧ (∀ y ∈ b0, w.heap.size ≤ y) ∧ Below w.heap.size w w' := by
  obtain ⟨i0, hi, hz0, hz1, hz2⟩ := info_parts Tryz.infoS
  obtain ⟨a, ca, rfl, hm, hA⟩ := hv
  have HR : Hid (∀ k, (xss.getD k []).length ≤ 16777216) := hr
  clear hr
  generalize hn : xss.length = n at *
  go_enter Tryz.func68, Tryz.ntmps68
  go_wp2_with (at_make; refine wpList_make_full _ rfl _ _ 22 rfl w.heap.size 25 i0 (.slice none 0 0) 1 Tryz.underlying22 hi hz0 hz1 _ _ _ _ n rfl rfl rfl rfl (by rw [hz2]; omega) hm (Nat.le_refl _) ?_)
  intro w1 hown hgrow
  have hb1 : Below w.heap.size w w1 := (Below.refl _ _).grown hgrow (Nat.le_refl _) (fun k hk => by cases hk)
  have hown1 : Own w1 25 1 (.slice (some ⟨w.heap.size, 0, none⟩) n n) n (List.replicate n (.slice none 0 0)) [w.heap.size] := by
    obtain ⟨bs, h1, h2⟩ := Own.of_owns hown
    have hbs : bs = [w.heap.size] := by
      rcases h1.2 with ⟨k, _⟩ | ⟨g', cap', cur, rfl, k, _⟩
      · cases k
      · simp at k; rw [k.1]
    rw [hbs, toList_madeCells_one] at h1
    exact h1
  clear hown hgrow
  by_cases hx : n = 0
  · subst hx
    have hx : xss = [] := List.eq_nil_of_length_eq_zero hn
    subst hx
    go_wp2
    refine wp_loop_rounds 1 ?_
    rw [rounds_succ]
    go_wp2
    go_ret
    exact ⟨_, [w.heap.size], rfl, ⟨[], [w.heap.size], [], by simpa using hown1, trivial, rfl, by simp⟩, by simp, hb1⟩
  · obtain ⟨b, o, rfl, hlt0, cA⟩ := hA (by intro h; rw [h] at hn; simp at hn; omega)
    clear hA
    have hnb : b ≠ w.heap.size := by omega
    go_wp2
    go_loopw [4, 5, 11] (fun _ _ i wr => ∃ k : Nat, ∃ vs : List Value, ∃ bi : List (List Nat), k ≤ n ∧ i = .int .i64 k ∧ Own wr 25 1 (.slice (some ⟨w.heap.size, 0, none⟩) n n) n (vs ++ List.replicate (n - k) (.slice none 0 0)) [w.heap.size] ∧ Rows wr vs (xss.take k) bi ∧ (w.heap.size :: bi.flatten).Nodup ∧ (∀ x ∈ bi.flatten, w.heap.size < x) ∧ Below w.heap.size w wr) (fun _ _ i _ => n - (intOf i).toNat)
    case atStart => exact ⟨0, [], [], Nat.zero_le _, rfl, by simpa using hown1, trivial, by simp, by simp, hb1⟩
    case round =>
      clear hown1 hb1
      obtain ⟨k, vs, bi, hk, rfl, hown, hrows, hnd, hgt, hbel⟩ := hrel
      by_cases hlt : k < n
      · obtain ⟨p, c, c0, hr⟩ := cA k hlt
        have hml := HR.out k
        have hvl : vs.length = k := by rw [hrows.len.1]; simp; omega
        have c0' : wr.cell? ⟨b, o + k, none⟩ = some (.slice p (xss.getD k []).length c) := (hbel.cell (p := ⟨b, o + k, none⟩) hlt0).trans c0
        have hr' := hr.below hbel
        have HX : Hid (xss.take (k + 1) = xss.take k ++ [xss.getD k []]) := by
          show _ = _
          rw [List.take_succ_eq_append_getElem (by omega)]
          simp [show k < xss.length by omega]
        have hi : (k : Int) < (n : Int) := by omega
        clear cA c0 hr
        generalize xss.getD k [] = ys at *
        have hgl : w.heap.size < wr.heap.size := Own.lt hown _ (by simp)
        go_wp2_with fail
        refine (impl_copyOf _ ys _ hr' hml).mono ?_
        rintro e3 w2 ⟨u, bs, rfl, hI, hf, hb2⟩
        obtain ⟨pu, cu, rfl⟩ := Ints.value hI
        have hown2 := Own.keep hown hb2
        have hrows2 := hrows.keep hb2
        obtain ⟨F1, F2, F3⟩ := Mat.fill hown2 hrows2 hI hlt hvl hnd (fun x hx hm => by have := hrows.lt x hx; have := hf x hm; omega) (fun hm => by have := hf _ hm; omega) hI.nodup
        have c2 : ∃ u, w2.cell? ⟨w.heap.size, k, none⟩ = some u := ⟨_, (Own.cell hown2 k (by omega)).trans (List.getElem?_eq_getElem (by simp; omega))⟩
        obtain ⟨u2, c2⟩ := c2
        have f2 : w2.frozen? ⟨w.heap.size, k, none⟩ = false := Own.frozen hown2 k
        have hb3 : Below w.heap.size w (w2.setCell ⟨w.heap.size, k, none⟩ (.slice pu ys.length cu)) := (hbel.trans (hb2.mono hbel.size)).setCell (Nat.le_refl _) _
        have F4 : ∀ x ∈ (bi ++ [bs]).flatten, w.heap.size < x := by
          intro x hx
          simp only [List.flatten_append, List.flatten_cons, List.flatten_nil, List.append_nil, List.mem_append] at hx
          rcases hx with hx | hx
          · exact hgt x hx
          · have := hf x hx; omega
        rw [← HX.out] at F2
        clear hown hown2 hrows hrows2 hI hf hbel hb2 hnd hgt hr' c0'
        go_wp2
        go_roundw
        case rel => exact ⟨k + 1, _, _, by omega, by go_num, F1, F2, F3, F4, hb3⟩
        case measure => simp [intOf]; omega
      · obtain rfl : k = n := by omega
        have e : xss.take k = xss := List.take_of_length_le (by omega)
        rw [e] at hrows
        go_wp2
        go_ret
        refine ⟨_, w.heap.size :: bi.flatten, rfl, ⟨vs, [w.heap.size], bi, by simpa [hn] using hown, hrows, rfl, hnd⟩, ?_, hbel⟩
        intro x hx
        rcases List.mem_cons.1 hx with rfl | hx
        · exact Nat.le_refl _
        · exact Nat.le_of_lt (hgt x hx)
/-- a net that is not too great to be copied -/
structure Fit (x : MNet) : Prop where
  t : tot x.xTape ≤ 1048576
  u : x.xUsed.length ≤ 16777216
  h : x.xHeard.length ≤ 16777216
  r : ∀ k, (x.xHeard.getD k []).length ≤ 16777216
theorem Fit.tl {x : MNet} (h : Fit x) : x.xTape.length ≤ 16777216 := by have := h.t; have := tot_eq x.xTape; omega
theorem Fit.tr {x : MNet} (h : Fit x) (k : Nat) : (x.xTape.getD k []).length ≤ 16777216 := by
  have h1 := h.t
  have h2 := tot_eq x.xTape
  by_cases hk : k < x.xTape.length
  · have := row_le x.xTape k hk; omega
  · rw [show x.xTape.getD k [] = [] by simp [List.getD_eq_getElem?_getD, List.getElem?_eq_none (Nat.le_of_not_lt hk)]]; simp
theorem Fit.of_tot {x : MNet} (h : totNet x ≤ 1048576) : Fit x := by
  have h0 : totNet x = tot x.xTape + x.xUsed.length + tot x.xHeard := rfl
  have h2 := tot_eq x.xHeard
  refine ⟨by omega, by omega, by omega, fun k => ?_⟩
  by_cases hk : k < x.xHeard.length
  · have := row_le x.xHeard k hk; omega
  · rw [show x.xHeard.getD k [] = [] by simp [List.getD_eq_getElem?_getD, List.getElem?_eq_none (Nat.le_of_not_lt hk)]]; simp
set_option maxHeartbeats 4000000 in
set_option maxRecDepth 100000 in
theorem impl_copyOfNet (v : Value) (x : MNet) (w : World) (hv : RdNet w v x) (hx : Fit x) :
    Calls Tryz.prog 40 #[v] w fun e w' => ∃ u b0 b1 b2, e = .returned u ∧ OwNet w' u x b0 b1 b2 ∧ (∀ y ∈ b0, w.heap.size ≤ y) ∧ (∀ y ∈ b1, w.heap.size ≤ y) ∧ (∀ y ∈ b2, w.heap.size ≤ y) ∧ Below w.heap.size w w' := by
  obtain ⟨p0, c0, p1, c1, p2, c2, rfl, h0, h1, h2⟩ := hv
  have B0 : Below w.heap.size w ((w.alloc (.cells #[.slice p0 x.xTape.length c0, .slice p1 x.xUsed.length c1, .int .i64 x.xSent, .slice p2 x.xHeard.length c2, .int .i64 x.xCheat.xWho, .int .i64 x.xCheat.xAt, .int .i64 x.xCheat.xBy, .bool x.xCheat.xCry, .bool x.xQuarrel.xSome, .int .i64 x.xQuarrel.xFrom, .int .i64 x.xQuarrel.xCheck, .int .i64 x.xQuarrel.xTo, .int .i64 x.xQuarrel.xTold, .int .i64 x.xQuarrel.xHeard, .int .i64 x.xQuarrel.xOther, .int .i64 x.xQuarrel.xVowed] 41)).alloc (.cells #[.slice none 0 0, .slice none 0 0, .int .i64 0, .slice none 0 0, .int .i64 0, .int .i64 0, .int .i64 0, .bool false, .bool false, .int .i64 0, .int .i64 0, .int .i64 0, .int .i64 0, .int .i64 0, .int .i64 0, .int .i64 0] 41)) := (by repeat (first | exact Below.refl _ _ | refine Below.drew ?_ | refine below_drewN ?_ _ | refine Below.setCell ?_ (by first | omega | (simp; done) | (simp; omega)) _ | refine Below.alloc ?_ (by first | omega | (simp; done) | (simp; omega)) _))
  have X0 : Blk ((w.alloc (.cells #[.slice p0 x.xTape.length c0, .slice p1 x.xUsed.length c1, .int .i64 x.xSent, .slice p2 x.xHeard.length c2, .int .i64 x.xCheat.xWho, .int .i64 x.xCheat.xAt, .int .i64 x.xCheat.xBy, .bool x.xCheat.xCry, .bool x.xQuarrel.xSome, .int .i64 x.xQuarrel.xFrom, .int .i64 x.xQuarrel.xCheck, .int .i64 x.xQuarrel.xTo, .int .i64 x.xQuarrel.xTold, .int .i64 x.xQuarrel.xHeard, .int .i64 x.xQuarrel.xOther, .int .i64 x.xQuarrel.xVowed] 41)).alloc (.cells #[.slice none 0 0, .slice none 0 0, .int .i64 0, .slice none 0 0, .int .i64 0, .int .i64 0, .int .i64 0, .bool false, .bool false, .int .i64 0, .int .i64 0, .int .i64 0, .int .i64 0, .int .i64 0, .int .i64 0, .int .i64 0] 41)) w.heap.size 41 #[.slice p0 x.xTape.length c0, .slice p1 x.xUsed.length c1, .int .i64 x.xSent, .slice p2 x.xHeard.length c2, .int .i64 x.xCheat.xWho, .int .i64 x.xCheat.xAt, .int .i64 x.xCheat.xBy, .bool x.xCheat.xCry, .bool x.xQuarrel.xSome, .int .i64 x.xQuarrel.xFrom, .int .i64 x.xQuarrel.xCheck, .int .i64 x.xQuarrel.xTo, .int .i64 x.xQuarrel.xTold, .int .i64 x.xQuarrel.xHeard, .int .i64 x.xQuarrel.xOther, .int .i64 x.xQuarrel.xVowed] := (Blk.new w _ _).alloc _
  have Y0 : Blk ((w.alloc (.cells #[.slice p0 x.xTape.length c0, .slice p1 x.xUsed.length c1, .int .i64 x.xSent, .slice p2 x.xHeard.length c2, .int .i64 x.xCheat.xWho, .int .i64 x.xCheat.xAt, .int .i64 x.xCheat.xBy, .bool x.xCheat.xCry, .bool x.xQuarrel.xSome, .int .i64 x.xQuarrel.xFrom, .int .i64 x.xQuarrel.xCheck, .int .i64 x.xQuarrel.xTo, .int .i64 x.xQuarrel.xTold, .int .i64 x.xQuarrel.xHeard, .int .i64 x.xQuarrel.xOther, .int .i64 x.xQuarrel.xVowed] 41)).alloc (.cells #[.slice none 0 0, .slice none 0 0, .int .i64 0, .slice none 0 0, .int .i64 0, .int .i64 0, .int .i64 0, .bool false, .bool false, .int .i64 0, .int .i64 0, .int .i64 0, .int .i64 0, .int .i64 0, .int .i64 0, .int .i64 0] 41)) (w.heap.size + 1) 41 #[.slice none 0 0, .slice none 0 0, .int .i64 0, .slice none 0 0, .int .i64 0, .int .i64 0, .int .i64 0, .bool false, .bool false, .int .i64 0, .int .i64 0, .int .i64 0, .int .i64 0, .int .i64 0, .int .i64 0, .int .i64 0] := by simpa using Blk.new (w.alloc (.cells #[.slice p0 x.xTape.length c0, .slice p1 x.xUsed.length c1, .int .i64 x.xSent, .slice p2 x.xHeard.length c2, .int .i64 x.xCheat.xWho, .int .i64 x.xCheat.xAt, .int .i64 x.xCheat.xBy, .bool x.xCheat.xCry, .bool x.xQuarrel.xSome, .int .i64 x.xQuarrel.xFrom, .int .i64 x.xQuarrel.xCheck, .int .i64 x.xQuarrel.xTo, .int .i64 x.xQuarrel.xTold, .int .i64 x.xQuarrel.xHeard, .int .i64 x.xQuarrel.xOther, .int .i64 x.xQuarrel.xVowed] 41)) 41 #[.slice none 0 0, .slice none 0 0, .int .i64 0, .slice none 0 0, .int .i64 0, .int .i64 0, .int .i64 0, .bool false, .bool false, .int .i64 0, .int .i64 0, .int .i64 0, .int .i64 0, .int .i64 0, .int .i64 0, .int .i64 0]
  have sz0 : ((w.alloc (.cells #[.slice p0 x.xTape.length c0, .slice p1 x.xUsed.length c1, .int .i64 x.xSent, .slice p2 x.xHeard.length c2, .int .i64 x.xCheat.xWho, .int .i64 x.xCheat.xAt, .int .i64 x.xCheat.xBy, .bool x.xCheat.xCry, .bool x.xQuarrel.xSome, .int .i64 x.xQuarrel.xFrom, .int .i64 x.xQuarrel.xCheck, .int .i64 x.xQuarrel.xTo, .int .i64 x.xQuarrel.xTold, .int .i64 x.xQuarrel.xHeard, .int .i64 x.xQuarrel.xOther, .int .i64 x.xQuarrel.xVowed] 41)).alloc (.cells #[.slice none 0 0, .slice none 0 0, .int .i64 0, .slice none 0 0, .int .i64 0, .int .i64 0, .int .i64 0, .bool false, .bool false, .int .i64 0, .int .i64 0, .int .i64 0, .int .i64 0, .int .i64 0, .int .i64 0, .int .i64 0] 41)).heap.size = w.heap.size + 2 := by simp
  go_enter Tryz.func40, Tryz.ntmps40
  go_wp2_with fail
  refine (impl_copyOfLists _ x.xTape _ (h0.below B0) hx.tl hx.tr).mono ?_
  rintro e w1 ⟨u, b0, rfl, T1, f1, hb1⟩
  obtain ⟨q0, d0, rfl⟩ := T1.value
  replace X0 := X0.keep hb1
  replace Y0 := Y0.keep hb1
  replace B0 : Below w.heap.size w w1 := B0.trans (hb1.mono B0.size)
  rw [sz0] at f1
  have sz1 := hb1.size
  rw [sz0] at sz1
  clear hb1 sz0
  have ltT := T1.lt
  have O1 : Off [w.heap.size] w1 (w1.setCell ⟨w.heap.size, 0, none⟩ (.slice q0 x.xTape.length d0)) := (Off.refl _ _).setCell _ _ (by simp)
  have xa := X0.at.1
  have xb := X0.at.2
  have xl := X0.lt
  go_wp2_with fail
  clear xa xb
  refine Calls.at (F := fun V => Blk V w.heap.size 41 #[.slice q0 x.xTape.length d0, .slice p1 x.xUsed.length c1, .int .i64 x.xSent, .slice p2 x.xHeard.length c2, .int .i64 x.xCheat.xWho, .int .i64 x.xCheat.xAt, .int .i64 x.xCheat.xBy, .bool x.xCheat.xCry, .bool x.xQuarrel.xSome, .int .i64 x.xQuarrel.xFrom, .int .i64 x.xQuarrel.xCheck, .int .i64 x.xQuarrel.xTo, .int .i64 x.xQuarrel.xTold, .int .i64 x.xQuarrel.xHeard, .int .i64 x.xQuarrel.xOther, .int .i64 x.xQuarrel.xVowed] ∧ Blk V (w.heap.size + 1) 41 #[.slice none 0 0, .slice none 0 0, .int .i64 0, .slice none 0 0, .int .i64 0, .int .i64 0, .int .i64 0, .bool false, .bool false, .int .i64 0, .int .i64 0, .int .i64 0, .int .i64 0, .int .i64 0, .int .i64 0, .int .i64 0] ∧ Mat V (.slice q0 x.xTape.length d0) x.xTape b0 ∧ Below w.heap.size w V ∧ V.heap.size = w1.heap.size) ⟨Blk.of_eq (X0.set 0 _) (by simp), Y0.off O1 (by simp), T1.off O1 (fun y hy hm => by have := f1 y hy; simp at hm; omega), B0.trans (O1.toBelow B0.size (by simp)), by simp⟩ ?_
  clear X0 Y0 B0 T1 O1 xl
  rintro w2 ⟨X0, Y0, T1, B0, sz2⟩
  refine (impl_copyOf _ x.xUsed _ (h1.below B0) hx.u).mono ?_
  rintro e w3 ⟨u, b1, rfl, U3, f3, hb3⟩
  obtain ⟨q1, d1, rfl⟩ := U3.value
  replace X0 := X0.keep hb3
  replace Y0 := Y0.keep hb3
  replace T1 := T1.keep hb3
  replace B0 : Below w.heap.size w w3 := B0.trans (hb3.mono B0.size)
  rw [sz2] at f3
  have sz3 := hb3.size
  rw [sz2] at sz3
  have ltU := U3.lt
  clear hb3 sz2
  have O3 : Off [w.heap.size] w3 (w3.setCell ⟨w.heap.size, 1, none⟩ (.slice q1 x.xUsed.length d1)) := (Off.refl _ _).setCell _ _ (by simp)
  have xa := X0.at.1
  have xb := X0.at.2
  have xl := X0.lt
  go_wp2_with fail
  clear xa xb
  refine Calls.at (F := fun V => Blk V w.heap.size 41 #[.slice q0 x.xTape.length d0, .slice q1 x.xUsed.length d1, .int .i64 x.xSent, .slice p2 x.xHeard.length c2, .int .i64 x.xCheat.xWho, .int .i64 x.xCheat.xAt, .int .i64 x.xCheat.xBy, .bool x.xCheat.xCry, .bool x.xQuarrel.xSome, .int .i64 x.xQuarrel.xFrom, .int .i64 x.xQuarrel.xCheck, .int .i64 x.xQuarrel.xTo, .int .i64 x.xQuarrel.xTold, .int .i64 x.xQuarrel.xHeard, .int .i64 x.xQuarrel.xOther, .int .i64 x.xQuarrel.xVowed] ∧ Blk V (w.heap.size + 1) 41 #[.slice none 0 0, .slice none 0 0, .int .i64 0, .slice none 0 0, .int .i64 0, .int .i64 0, .int .i64 0, .bool false, .bool false, .int .i64 0, .int .i64 0, .int .i64 0, .int .i64 0, .int .i64 0, .int .i64 0, .int .i64 0] ∧ Mat V (.slice q0 x.xTape.length d0) x.xTape b0 ∧ Ints V (.slice q1 x.xUsed.length d1) x.xUsed b1 ∧ Below w.heap.size w V ∧ V.heap.size = w3.heap.size) ⟨Blk.of_eq (X0.set 1 _) (by simp), Y0.off O3 (by simp), T1.off O3 (fun y hy hm => by have := f1 y hy; simp at hm; omega), U3.off O3 (fun y hy hm => by have := f3 y hy; simp at hm; omega), B0.trans (O3.toBelow B0.size (by simp)), by simp⟩ ?_
  clear X0 Y0 B0 T1 U3 O3 xl
  rintro w4 ⟨X0, Y0, T1, U3, B0, sz4⟩
  refine (impl_copyOfLists _ x.xHeard _ (h2.below B0) hx.h hx.r).mono ?_
  rintro e w5 ⟨u, b2, rfl, H5, f5, hb5⟩
  obtain ⟨q2, d2, rfl⟩ := H5.value
  replace T1 := T1.keep hb5
  replace U3 := U3.keep hb5
  replace X0 := X0.keep hb5
  replace Y0 := Y0.keep hb5
  replace B0 : Below w.heap.size w w5 := B0.trans (hb5.mono B0.size)
  have ltH := H5.lt
  clear hb5
  rw [sz4] at f5
  have OO : ∀ W, Off [w.heap.size, w.heap.size + 1] w5 W → (∃ u b0 b1 b2, Ending.returned (.agg #[.slice q0 x.xTape.length d0, .slice q1 x.xUsed.length d1, .int .i64 x.xSent, .slice q2 x.xHeard.length d2, .int .i64 x.xCheat.xWho, .int .i64 x.xCheat.xAt, .int .i64 x.xCheat.xBy, .bool x.xCheat.xCry, .bool x.xQuarrel.xSome, .int .i64 x.xQuarrel.xFrom, .int .i64 x.xQuarrel.xCheck, .int .i64 x.xQuarrel.xTo, .int .i64 x.xQuarrel.xTold, .int .i64 x.xQuarrel.xHeard, .int .i64 x.xQuarrel.xOther, .int .i64 x.xQuarrel.xVowed]) = .returned u ∧ OwNet W u x b0 b1 b2 ∧ (∀ y ∈ b0, w.heap.size ≤ y) ∧ (∀ y ∈ b1, w.heap.size ≤ y) ∧ (∀ y ∈ b2, w.heap.size ≤ y) ∧ Below w.heap.size w W) := fun W OO =>
    ⟨_, b0, b1, b2, rfl, ⟨q0, d0, q1, d1, q2, d2, rfl, T1.off OO (fun y hy hm => by have := f1 y hy; simp at hm; omega), U3.off OO (fun y hy hm => by have := f3 y hy; simp at hm; omega), H5.off OO (fun y hy hm => by have := f5 y hy; simp at hm; omega), fun y hy hm => by have := ltT y hy; have := f3 y hm; omega, fun y hy hm => by have := ltT y hy; have := f5 y hm; omega, fun y hy hm => by have := ltU y hy; have := f5 y hm; omega⟩, fun y hy => by have := f1 y hy; omega, fun y hy => by have := f3 y hy; omega, fun y hy => by have := f5 y hy; omega, B0.trans (OO.toBelow B0.size (by simp))⟩
  have xa := X0.at.1
  have xb := X0.at.2
  have xl := X0.lt
  have ya := Y0.at.1
  have yb := Y0.at.2
  have yl := Y0.lt
  clear T1 U3 H5
  go_wp2
  exact bodyPost_ret (v := .agg #[.slice q0 x.xTape.length d0, .slice q1 x.xUsed.length d1, .int .i64 x.xSent, .slice q2 x.xHeard.length d2, .int .i64 x.xCheat.xWho, .int .i64 x.xCheat.xAt, .int .i64 x.xCheat.xBy, .bool x.xCheat.xCry, .bool x.xQuarrel.xSome, .int .i64 x.xQuarrel.xFrom, .int .i64 x.xQuarrel.xCheck, .int .i64 x.xQuarrel.xTo, .int .i64 x.xQuarrel.xTold, .int .i64 x.xQuarrel.xHeard, .int .i64 x.xQuarrel.xOther, .int .i64 x.xQuarrel.xVowed]) (by simp [results, Tryz.results40, go_sem, ya]) rfl (OO _ (((((((((((((((((((Off.refl _ _).setCell _ _ (by simp)).setCell _ _ (by simp)).setCell _ _ (by simp)).setCell _ _ (by simp)).setCell _ _ (by simp)).setCell _ _ (by simp)).setCell _ _ (by simp)).setCell _ _ (by simp)).setCell _ _ (by simp)).setCell _ _ (by simp)).setCell _ _ (by simp)).setCell _ _ (by simp)).setCell _ _ (by simp)).setCell _ _ (by simp)).setCell _ _ (by simp)).setCell _ _ (by simp)).setCell _ _ (by simp))))
def OutNet (w w' : World) (x : MNet) (e : Ending) : Prop := ∃ u b0 b1 b2, e = .returned u ∧ OwNet w' u x b0 b1 b2 ∧ (∀ y ∈ b0, w.heap.size ≤ y) ∧ (∀ y ∈ b1, w.heap.size ≤ y) ∧ (∀ y ∈ b2, w.heap.size ≤ y) ∧ Below w.heap.size w w'
set_option maxHeartbeats 4000000 in
set_option maxRecDepth 100000 in
theorem spec_l4Copy_out (v : Value) (x : MNet) (w : World) (hv : RdNet w v x) (hx : Fit x) :
    Calls Tryz.prog 32 #[v] w fun e w' => OutNet w w' x e := by
  obtain ⟨i0, hi, hz0, hz1, hz2⟩ := info_parts Tryz.infoS
  obtain ⟨p0, c0, p1, c1, p2, c2, rfl, h0, h1, h2⟩ := hv
  have B0 : Below w.heap.size w ((w.alloc (.cells #[.slice p0 x.xTape.length c0, .slice p1 x.xUsed.length c1, .int .i64 x.xSent, .slice p2 x.xHeard.length c2, .int .i64 x.xCheat.xWho, .int .i64 x.xCheat.xAt, .int .i64 x.xCheat.xBy, .bool x.xCheat.xCry, .bool x.xQuarrel.xSome, .int .i64 x.xQuarrel.xFrom, .int .i64 x.xQuarrel.xCheck, .int .i64 x.xQuarrel.xTo, .int .i64 x.xQuarrel.xTold, .int .i64 x.xQuarrel.xHeard, .int .i64 x.xQuarrel.xOther, .int .i64 x.xQuarrel.xVowed] 41)).alloc (.cells #[.slice none 0 0, .slice none 0 0, .int .i64 0, .slice none 0 0, .int .i64 0, .int .i64 0, .int .i64 0, .bool false, .bool false, .int .i64 0, .int .i64 0, .int .i64 0, .int .i64 0, .int .i64 0, .int .i64 0, .int .i64 0] 41)) := (by repeat (first | exact Below.refl _ _ | refine Below.drew ?_ | refine below_drewN ?_ _ | refine Below.setCell ?_ (by first | omega | (simp; done) | (simp; omega)) _ | refine Below.alloc ?_ (by first | omega | (simp; done) | (simp; omega)) _))
  have X0 : Blk ((w.alloc (.cells #[.slice p0 x.xTape.length c0, .slice p1 x.xUsed.length c1, .int .i64 x.xSent, .slice p2 x.xHeard.length c2, .int .i64 x.xCheat.xWho, .int .i64 x.xCheat.xAt, .int .i64 x.xCheat.xBy, .bool x.xCheat.xCry, .bool x.xQuarrel.xSome, .int .i64 x.xQuarrel.xFrom, .int .i64 x.xQuarrel.xCheck, .int .i64 x.xQuarrel.xTo, .int .i64 x.xQuarrel.xTold, .int .i64 x.xQuarrel.xHeard, .int .i64 x.xQuarrel.xOther, .int .i64 x.xQuarrel.xVowed] 41)).alloc (.cells #[.slice none 0 0, .slice none 0 0, .int .i64 0, .slice none 0 0, .int .i64 0, .int .i64 0, .int .i64 0, .bool false, .bool false, .int .i64 0, .int .i64 0, .int .i64 0, .int .i64 0, .int .i64 0, .int .i64 0, .int .i64 0] 41)) w.heap.size 41 #[.slice p0 x.xTape.length c0, .slice p1 x.xUsed.length c1, .int .i64 x.xSent, .slice p2 x.xHeard.length c2, .int .i64 x.xCheat.xWho, .int .i64 x.xCheat.xAt, .int .i64 x.xCheat.xBy, .bool x.xCheat.xCry, .bool x.xQuarrel.xSome, .int .i64 x.xQuarrel.xFrom, .int .i64 x.xQuarrel.xCheck, .int .i64 x.xQuarrel.xTo, .int .i64 x.xQuarrel.xTold, .int .i64 x.xQuarrel.xHeard, .int .i64 x.xQuarrel.xOther, .int .i64 x.xQuarrel.xVowed] := (Blk.new w _ _).alloc _
  have Y0 : Blk ((w.alloc (.cells #[.slice p0 x.xTape.length c0, .slice p1 x.xUsed.length c1, .int .i64 x.xSent, .slice p2 x.xHeard.length c2, .int .i64 x.xCheat.xWho, .int .i64 x.xCheat.xAt, .int .i64 x.xCheat.xBy, .bool x.xCheat.xCry, .bool x.xQuarrel.xSome, .int .i64 x.xQuarrel.xFrom, .int .i64 x.xQuarrel.xCheck, .int .i64 x.xQuarrel.xTo, .int .i64 x.xQuarrel.xTold, .int .i64 x.xQuarrel.xHeard, .int .i64 x.xQuarrel.xOther, .int .i64 x.xQuarrel.xVowed] 41)).alloc (.cells #[.slice none 0 0, .slice none 0 0, .int .i64 0, .slice none 0 0, .int .i64 0, .int .i64 0, .int .i64 0, .bool false, .bool false, .int .i64 0, .int .i64 0, .int .i64 0, .int .i64 0, .int .i64 0, .int .i64 0, .int .i64 0] 41)) (w.heap.size + 1) 41 #[.slice none 0 0, .slice none 0 0, .int .i64 0, .slice none 0 0, .int .i64 0, .int .i64 0, .int .i64 0, .bool false, .bool false, .int .i64 0, .int .i64 0, .int .i64 0, .int .i64 0, .int .i64 0, .int .i64 0, .int .i64 0] := by simpa using Blk.new (w.alloc (.cells #[.slice p0 x.xTape.length c0, .slice p1 x.xUsed.length c1, .int .i64 x.xSent, .slice p2 x.xHeard.length c2, .int .i64 x.xCheat.xWho, .int .i64 x.xCheat.xAt, .int .i64 x.xCheat.xBy, .bool x.xCheat.xCry, .bool x.xQuarrel.xSome, .int .i64 x.xQuarrel.xFrom, .int .i64 x.xQuarrel.xCheck, .int .i64 x.xQuarrel.xTo, .int .i64 x.xQuarrel.xTold, .int .i64 x.xQuarrel.xHeard, .int .i64 x.xQuarrel.xOther, .int .i64 x.xQuarrel.xVowed] 41)) 41 #[.slice none 0 0, .slice none 0 0, .int .i64 0, .slice none 0 0, .int .i64 0, .int .i64 0, .int .i64 0, .bool false, .bool false, .int .i64 0, .int .i64 0, .int .i64 0, .int .i64 0, .int .i64 0, .int .i64 0, .int .i64 0]
  have sz0 : ((w.alloc (.cells #[.slice p0 x.xTape.length c0, .slice p1 x.xUsed.length c1, .int .i64 x.xSent, .slice p2 x.xHeard.length c2, .int .i64 x.xCheat.xWho, .int .i64 x.xCheat.xAt, .int .i64 x.xCheat.xBy, .bool x.xCheat.xCry, .bool x.xQuarrel.xSome, .int .i64 x.xQuarrel.xFrom, .int .i64 x.xQuarrel.xCheck, .int .i64 x.xQuarrel.xTo, .int .i64 x.xQuarrel.xTold, .int .i64 x.xQuarrel.xHeard, .int .i64 x.xQuarrel.xOther, .int .i64 x.xQuarrel.xVowed] 41)).alloc (.cells #[.slice none 0 0, .slice none 0 0, .int .i64 0, .slice none 0 0, .int .i64 0, .int .i64 0, .int .i64 0, .bool false, .bool false, .int .i64 0, .int .i64 0, .int .i64 0, .int .i64 0, .int .i64 0, .int .i64 0, .int .i64 0] 41)).heap.size = w.heap.size + 2 := by simp
  have HS : Hid (∀ k, (x.xHeard.getD k []).length ≤ 16777216) := hx.r
  have hnl := hx.h
  go_enter Tryz.func32, Tryz.ntmps32
  go_wp2_with fail
  refine (spec_l2Copy _ x.xTape _ ⟨p0, c0, rfl, h0.below B0⟩ hx.t).mono ?_
  rintro e w1 ⟨u, b0, rfl, T1, f1, hb1⟩
  obtain ⟨q0, d0, rfl, T1⟩ := T1
  replace X0 := X0.keep hb1
  replace Y0 := Y0.keep hb1
  replace B0 : Below w.heap.size w w1 := B0.trans (hb1.mono B0.size)
  rw [sz0] at f1
  have sz1 := hb1.size
  rw [sz0] at sz1
  clear hb1 sz0
  have ltT := T1.lt
  have O1 : Off [w.heap.size] w1 (w1.setCell ⟨w.heap.size, 0, none⟩ (.slice q0 x.xTape.length d0)) := (Off.refl _ _).setCell _ _ (by simp)
  have xa := X0.at.1
  have xb := X0.at.2
  have xl := X0.lt
  go_wp2_with fail
  clear xa xb
  refine Calls.at (F := fun V => Blk V w.heap.size 41 #[.slice q0 x.xTape.length d0, .slice p1 x.xUsed.length c1, .int .i64 x.xSent, .slice p2 x.xHeard.length c2, .int .i64 x.xCheat.xWho, .int .i64 x.xCheat.xAt, .int .i64 x.xCheat.xBy, .bool x.xCheat.xCry, .bool x.xQuarrel.xSome, .int .i64 x.xQuarrel.xFrom, .int .i64 x.xQuarrel.xCheck, .int .i64 x.xQuarrel.xTo, .int .i64 x.xQuarrel.xTold, .int .i64 x.xQuarrel.xHeard, .int .i64 x.xQuarrel.xOther, .int .i64 x.xQuarrel.xVowed] ∧ Blk V (w.heap.size + 1) 41 #[.slice none 0 0, .slice none 0 0, .int .i64 0, .slice none 0 0, .int .i64 0, .int .i64 0, .int .i64 0, .bool false, .bool false, .int .i64 0, .int .i64 0, .int .i64 0, .int .i64 0, .int .i64 0, .int .i64 0, .int .i64 0] ∧ Mat V (.slice q0 x.xTape.length d0) x.xTape b0 ∧ Below w.heap.size w V ∧ V.heap.size = w1.heap.size) ⟨Blk.of_eq (X0.set 0 _) (by simp), Y0.off O1 (by simp), T1.off O1 (fun y hy hm => by have := f1 y hy; simp at hm; omega), B0.trans (O1.toBelow B0.size (by simp)), by simp⟩ ?_
  clear X0 Y0 B0 T1 O1 xl
  rintro w2 ⟨X0, Y0, T1, B0, sz2⟩
  refine (spec_l1Copy _ x.xUsed _ (h1.below B0) hx.u).mono ?_
  rintro e w3 ⟨u, b1, rfl, U3, f3, hb3⟩
  obtain ⟨q1, d1, rfl⟩ := U3.value
  replace X0 := X0.keep hb3
  replace Y0 := Y0.keep hb3
  replace T1 := T1.keep hb3
  replace B0 : Below w.heap.size w w3 := B0.trans (hb3.mono B0.size)
  rw [sz2] at f3
  have sz3 := hb3.size
  rw [sz2] at sz3
  have ltU := U3.lt
  clear hb3 sz2
  have O3 : Off [w.heap.size] w3 (w3.setCell ⟨w.heap.size, 1, none⟩ (.slice q1 x.xUsed.length d1)) := (Off.refl _ _).setCell _ _ (by simp)
  have X4 := Blk.of_eq (X0.set 1 (.slice q1 x.xUsed.length d1)) (ds := #[.slice q0 x.xTape.length d0, .slice q1 x.xUsed.length d1, .int .i64 x.xSent, .slice p2 x.xHeard.length c2, .int .i64 x.xCheat.xWho, .int .i64 x.xCheat.xAt, .int .i64 x.xCheat.xBy, .bool x.xCheat.xCry, .bool x.xQuarrel.xSome, .int .i64 x.xQuarrel.xFrom, .int .i64 x.xQuarrel.xCheck, .int .i64 x.xQuarrel.xTo, .int .i64 x.xQuarrel.xTold, .int .i64 x.xQuarrel.xHeard, .int .i64 x.xQuarrel.xOther, .int .i64 x.xQuarrel.xVowed]) (by simp)
  have Y4 := Y0.off O3 (by simp)
  have T4 := T1.off O3 (fun y hy hm => by have := f1 y hy; simp at hm; omega)
  have U4 := U3.off O3 (fun y hy hm => by have := f3 y hy; simp at hm; omega)
  have B4 : Below w.heap.size w (w3.setCell ⟨w.heap.size, 1, none⟩ (.slice q1 x.xUsed.length d1)) := B0.trans (O3.toBelow B0.size (by simp))
  have sz4 : (w3.setCell ⟨w.heap.size, 1, none⟩ (.slice q1 x.xUsed.length d1)).heap.size = w3.heap.size := by simp
  have xa := X0.at.1
  have xb := X0.at.2
  have xl := X0.lt
  go_wp2_with fail
  clear xa xb X0 Y0 T1 U3 B0 O3 xl
  generalize w3.setCell ⟨w.heap.size, 1, none⟩ (.slice q1 x.xUsed.length d1) = w4 at *
  have X0 := X4
  have Y0 := Y4
  have T1 := T4
  have U3 := U4
  have B0 := B4
  clear X4 Y4 T4 U4 B4
  have H0 : Own (w4.alloc (.cells #[] 25)) 25 1 (.slice (some ⟨w4.heap.size, 0, none⟩) 0 0) 0 [] [w4.heap.size] := Own.made w4 25 1 #[] 0 (Nat.zero_le _) rfl
  have XL := X0.alloc (.cells #[] 25)
  have YL := Y0.alloc (.cells #[] 25)
  have TL := T1.alloc (.cells #[] 25)
  have UL := Ints.alloc U3 (.cells #[] 25)
  have BL := B0.alloc B0.size (.cells #[] 25)
  have xl0 := X0.lt
  clear X0 Y0 T1 U3 B0
  rw [sz4] at xl0
  go_loopw [3, 4] (fun h i wr => ∃ k : Nat, ∃ vs : List Value, ∃ bo : List Nat, ∃ bi : List (List Nat), k ≤ x.xHeard.length ∧ i = .int .i64 k ∧ Own wr 25 1 h k vs bo ∧ Rows wr vs (x.xHeard.take k) bi ∧ (bo ++ bi.flatten).Nodup ∧ (∀ y ∈ bo ++ bi.flatten, w3.heap.size ≤ y) ∧ Blk wr w.heap.size 41 #[.slice q0 x.xTape.length d0, .slice q1 x.xUsed.length d1, .int .i64 x.xSent, .slice p2 x.xHeard.length c2, .int .i64 x.xCheat.xWho, .int .i64 x.xCheat.xAt, .int .i64 x.xCheat.xBy, .bool x.xCheat.xCry, .bool x.xQuarrel.xSome, .int .i64 x.xQuarrel.xFrom, .int .i64 x.xQuarrel.xCheck, .int .i64 x.xQuarrel.xTo, .int .i64 x.xQuarrel.xTold, .int .i64 x.xQuarrel.xHeard, .int .i64 x.xQuarrel.xOther, .int .i64 x.xQuarrel.xVowed] ∧ Blk wr (w.heap.size + 1) 41 #[.slice none 0 0, .slice none 0 0, .int .i64 0, .slice none 0 0, .int .i64 0, .int .i64 0, .int .i64 0, .bool false, .bool false, .int .i64 0, .int .i64 0, .int .i64 0, .int .i64 0, .int .i64 0, .int .i64 0, .int .i64 0] ∧ Mat wr (.slice q0 x.xTape.length d0) x.xTape b0 ∧ Ints wr (.slice q1 x.xUsed.length d1) x.xUsed b1 ∧ Below w.heap.size w wr ∧ w3.heap.size ≤ wr.heap.size) (fun _ i _ => x.xHeard.length - (intOf i).toNat)
  case atStart => exact ⟨0, [], [w4.heap.size], [], Nat.zero_le _, rfl, by rw [← sz4]; exact H0, trivial, by simp, by simp; omega, XL, YL, TL, UL, BL, by simp; omega⟩
  case round =>
    obtain ⟨k, vs, bo, bi, hk, rfl, hO, hR, hnd, hgt, X, Y, TT, UU, B, szr⟩ := hrel
    clear XL YL TL UL BL H0
    obtain ⟨po, co, rfl⟩ := Own.value hO
    have xa := X.at.1
    have xl := X.lt
    by_cases hlt : k < x.xHeard.length
    · have hvr : ReadsM wr (.slice p2 x.xHeard.length c2) x.xHeard := h2.below B
      obtain ⟨b, off, q, d, rfl, hlt0, cc, r1⟩ := hvr.lane k hlt
      have hi' : (k : Int) < (x.xHeard.length : Int) := by omega
      have HT : Hid (x.xHeard.take (k + 1) = x.xHeard.take k ++ [x.xHeard.getD k []]) := by
        show _ = _
        rw [List.take_succ_eq_append_getElem hlt]
        simp [hlt]
      have hrl := HS.out k
      clear hvr
      generalize hys : x.xHeard.getD k [] = ys at *
      clear hys
      have lt0 := Own.lt hO
      have lt1 := hR.lt
      go_wp2_with fail
      refine (spec_l1Copy _ ys _ r1 hrl).mono ?_
      rintro e w5 ⟨u, bs, rfl, hI, hf, hb5⟩
      obtain ⟨pu, cu, rfl⟩ := Ints.value hI
      have hO1 := Own.keep hO hb5
      have hR1 := hR.keep hb5
      replace X := X.keep hb5
      replace Y := Y.keep hb5
      replace TT := TT.keep hb5
      replace UU := UU.keep hb5
      replace B := B.trans (hb5.mono B.size)
      have szw := hb5.size
      clear xa hO hR hb5 r1 cc
      go_wp2_with (at_builtin; refine wpList_append_Own rfl _ _ 22 rfl 25 i0 (.slice none 0 0) 1 24 Tryz.underlying22 hi hz0 hz1 hz2 rfl (by decide) _ _ _ bo rfl (Own.alloc hO1 _) ⟨w5.heap.size, 0, none⟩ 1 1 [.slice pu ys.length cu] rfl rfl ?c1 ?c2 ?c3 ?c4 ?c5 ?_)
      case c1 => exact one_new (Blk.new _ _ _)
      case c2 => intro u hu; simp at hu; subst hu; rfl
      case c3 => omega
      case c4 => unfold maxLen; omega
      case c5 => omega
      intro g cap w6 hO3 hoff hg3
      have hR3 := hR1.keep ((Below.refl w5.heap.size w5).alloc (Nat.le_refl _) (.cells #[.slice pu ys.length cu] 25))
      have hI3 := Ints.alloc hI (.cells #[.slice pu ys.length cu] 25)
      obtain ⟨R3, N3⟩ := Rows.push hR3 hI3 hoff hnd (fun y hy hm => by have := hf y hy; rcases List.mem_append.1 hm with h | h; (have := lt0 y h; omega); (have := lt1 y h; omega)) hI.nodup (hg3.imp id (fun h => by simp; omega))
      have Bs := B.size
      have zg : ∀ y ∈ [g] ++ (bi ++ [bs]).flatten, w3.heap.size ≤ y := by
        intro y hy
        simp only [List.flatten_append, List.flatten_cons, List.flatten_nil, List.append_nil, List.mem_append] at hy
        rcases hy with hy | hy | hy
        · simp at hy
          subst hy
          rcases hg3 with h | h
          · exact hgt y (by rw [h]; simp)
          · (try simp at h); omega
        · exact hgt y (List.mem_append_right _ hy)
        · have := hf y hy; omega
      have hno : ∀ y, y < w3.heap.size → y ∉ bo := fun y hy hm => by have := hgt y (List.mem_append_left _ hm); omega
      have X6 := (X.alloc (.cells #[.slice pu ys.length cu] 25)).off hoff (hno _ (by omega))
      have Y6 := (Y.alloc (.cells #[.slice pu ys.length cu] 25)).off hoff (hno _ (by omega))
      have T6 := (TT.alloc (.cells #[.slice pu ys.length cu] 25)).off hoff (fun y hy => hno y (by have := ltT y hy; omega))
      have U6 := (Ints.alloc UU (.cells #[.slice pu ys.length cu] 25)).off hoff (fun y hy => hno y (ltU y hy))
      have B6 : Below w.heap.size w w6 := (B.alloc B.size (.cells #[.slice pu ys.length cu] 25)).trans (hoff.toBelow (by simp; omega) (fun y hy => by have := hgt y (List.mem_append_left _ hy); omega))
      rw [← HT.out] at R3
      have hos := hoff.size
      clear hI hI3 hR1 hR3 hO1 hoff X Y TT UU B hnd hgt lt0 lt1 hf
      go_wp2
      go_roundw
      case rel => exact ⟨k + 1, _, _, _, by omega, by go_num, hO3, R3, N3, zg, X6, Y6, T6, U6, B6, by have := hos; simp at this; omega⟩
      case measure => simp [intOf]; omega
    · obtain rfl : k = x.xHeard.length := by omega
      have e : x.xHeard.take x.xHeard.length = x.xHeard := List.take_of_length_le (Nat.le_refl _)
      rw [e] at hR
      have H5 : Mat wr (.slice po x.xHeard.length co) x.xHeard (bo ++ bi.flatten) := ⟨vs, bo, bi, hO, hR, rfl, hnd⟩
      clear hO hR
      have OO : ∀ W, Off [w.heap.size, w.heap.size + 1] wr W → OutNet w W x (Ending.returned (.agg #[.slice q0 x.xTape.length d0, .slice q1 x.xUsed.length d1, .int .i64 x.xSent, .slice po x.xHeard.length co, .int .i64 x.xCheat.xWho, .int .i64 x.xCheat.xAt, .int .i64 x.xCheat.xBy, .bool x.xCheat.xCry, .bool x.xQuarrel.xSome, .int .i64 x.xQuarrel.xFrom, .int .i64 x.xQuarrel.xCheck, .int .i64 x.xQuarrel.xTo, .int .i64 x.xQuarrel.xTold, .int .i64 x.xQuarrel.xHeard, .int .i64 x.xQuarrel.xOther, .int .i64 x.xQuarrel.xVowed])) := fun W OO =>
        ⟨_, b0, b1, bo ++ bi.flatten, rfl, ⟨q0, d0, q1, d1, po, co, rfl, TT.off OO (fun y hy hm => by have := f1 y hy; simp at hm; omega), UU.off OO (fun y hy hm => by have := f3 y hy; simp at hm; omega), H5.off OO (fun y hy hm => by have := hgt y hy; simp at hm; omega), fun y hy hm => by have := ltT y hy; have := f3 y hm; omega, fun y hy hm => by have := ltT y hy; have := hgt y hm; omega, fun y hy hm => by have := ltU y hy; have := hgt y hm; omega⟩, fun y hy => by have := f1 y hy; omega, fun y hy => by have := f3 y hy; omega, fun y hy => by have := hgt y hy; omega, B.trans (OO.toBelow B.size (by simp))⟩
      have xb := X.at.2
      have ya := Y.at.1
      have yb := Y.at.2
      have yl := Y.lt
      clear TT UU H5
      go_wp2
      exact bodyPost_ret (v := .agg #[.slice q0 x.xTape.length d0, .slice q1 x.xUsed.length d1, .int .i64 x.xSent, .slice po x.xHeard.length co, .int .i64 x.xCheat.xWho, .int .i64 x.xCheat.xAt, .int .i64 x.xCheat.xBy, .bool x.xCheat.xCry, .bool x.xQuarrel.xSome, .int .i64 x.xQuarrel.xFrom, .int .i64 x.xQuarrel.xCheck, .int .i64 x.xQuarrel.xTo, .int .i64 x.xQuarrel.xTold, .int .i64 x.xQuarrel.xHeard, .int .i64 x.xQuarrel.xOther, .int .i64 x.xQuarrel.xVowed]) (by simp [results, Tryz.results32, go_sem, ya]) rfl (OO _ (((((((((((((((((((Off.refl _ _).setCell _ _ (by simp)).setCell _ _ (by simp)).setCell _ _ (by simp)).setCell _ _ (by simp)).setCell _ _ (by simp)).setCell _ _ (by simp)).setCell _ _ (by simp)).setCell _ _ (by simp)).setCell _ _ (by simp)).setCell _ _ (by simp)).setCell _ _ (by simp)).setCell _ _ (by simp)).setCell _ _ (by simp)).setCell _ _ (by simp)).setCell _ _ (by simp)).setCell _ _ (by simp)).setCell _ _ (by simp))))
theorem spec_l4Copy (v : Value) (x : MNet) (w : World) (hv : RdNet w v x) (hx : Fit x) :
    Calls Tryz.prog 32 #[v] w fun e w' => ∃ u b0 b1 b2, e = .returned u ∧ OwNet w' u x b0 b1 b2 ∧ (∀ y ∈ b0, w.heap.size ≤ y) ∧ (∀ y ∈ b1, w.heap.size ≤ y) ∧ (∀ y ∈ b2, w.heap.size ≤ y) ∧ Below w.heap.size w w' :=
  (spec_l4Copy_out v x w hv hx).mono fun _ _ h => h
end Go.Proofs.YtepobckhfodngaoGreat
