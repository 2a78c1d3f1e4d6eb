/-
  Contracts of chapter 3 of the program: what comes of four views.
-/
import Derived.Test.YtepobckhfodngaoGreatMirJ
namespace Go.Proofs.YtepobckhfodngaoGreat
open Go.ChangeShapes Go.WideShapes Go.ChangeAt Go.RowKit
set_option linter.unusedVariables false

theorem ag2_lit (a0 a1 a2 a3 b0 b1 b2 b3 c0 c1 c2 c3 d0 d1 d2 d3 : Int) : ag2 [[a0, a1, a2, a3], [b0, b1, b2, b3], [c0, c1, c2, c3], [d0, d1, d2, d3]] = .agg #[.int .i64 a0, .int .i64 a1, .int .i64 a2, .int .i64 a3, .int .i64 b0, .int .i64 b1, .int .i64 b2, .int .i64 b3, .int .i64 c0, .int .i64 c1, .int .i64 c2, .int .i64 c3, .int .i64 d0, .int .i64 d1, .int .i64 d2, .int .i64 d3] := rfl
/-- one of the four lists -/
theorem run_row0 (a0 a1 a2 a3 b0 b1 b2 b3 c0 c1 c2 c3 d0 d1 d2 d3 : Int) (w : World) : (Instr.index 85 (.agg #[.int .i64 a0, .int .i64 a1, .int .i64 a2, .int .i64 a3, .int .i64 b0, .int .i64 b1, .int .i64 b2, .int .i64 b3, .int .i64 c0, .int .i64 c1, .int .i64 c2, .int .i64 c3, .int .i64 d0, .int .i64 d1, .int .i64 d2, .int .i64 d3]) (.int .i64 0)).run Tryz.prog w = .ok (.agg #[.int .i64 a0, .int .i64 a1, .int .i64 a2, .int .i64 a3]) w := by kernel_rfl
theorem run_row1 (a0 a1 a2 a3 b0 b1 b2 b3 c0 c1 c2 c3 d0 d1 d2 d3 : Int) (w : World) : (Instr.index 85 (.agg #[.int .i64 a0, .int .i64 a1, .int .i64 a2, .int .i64 a3, .int .i64 b0, .int .i64 b1, .int .i64 b2, .int .i64 b3, .int .i64 c0, .int .i64 c1, .int .i64 c2, .int .i64 c3, .int .i64 d0, .int .i64 d1, .int .i64 d2, .int .i64 d3]) (.int .i64 1)).run Tryz.prog w = .ok (.agg #[.int .i64 b0, .int .i64 b1, .int .i64 b2, .int .i64 b3]) w := by kernel_rfl
theorem run_row2 (a0 a1 a2 a3 b0 b1 b2 b3 c0 c1 c2 c3 d0 d1 d2 d3 : Int) (w : World) : (Instr.index 85 (.agg #[.int .i64 a0, .int .i64 a1, .int .i64 a2, .int .i64 a3, .int .i64 b0, .int .i64 b1, .int .i64 b2, .int .i64 b3, .int .i64 c0, .int .i64 c1, .int .i64 c2, .int .i64 c3, .int .i64 d0, .int .i64 d1, .int .i64 d2, .int .i64 d3]) (.int .i64 2)).run Tryz.prog w = .ok (.agg #[.int .i64 c0, .int .i64 c1, .int .i64 c2, .int .i64 c3]) w := by kernel_rfl
theorem run_row3 (a0 a1 a2 a3 b0 b1 b2 b3 c0 c1 c2 c3 d0 d1 d2 d3 : Int) (w : World) : (Instr.index 85 (.agg #[.int .i64 a0, .int .i64 a1, .int .i64 a2, .int .i64 a3, .int .i64 b0, .int .i64 b1, .int .i64 b2, .int .i64 b3, .int .i64 c0, .int .i64 c1, .int .i64 c2, .int .i64 c3, .int .i64 d0, .int .i64 d1, .int .i64 d2, .int .i64 d3]) (.int .i64 3)).run Tryz.prog w = .ok (.agg #[.int .i64 d0, .int .i64 d1, .int .i64 d2, .int .i64 d3]) w := by kernel_rfl
theorem run_row (a0 a1 a2 a3 b0 b1 b2 b3 c0 c1 c2 c3 d0 d1 d2 d3 : Int) (k : Nat) (hk : k < 4) (r0 r1 r2 r3 : Int) (h : [[a0, a1, a2, a3], [b0, b1, b2, b3], [c0, c1, c2, c3], [d0, d1, d2, d3]].getD k [] = [r0, r1, r2, r3]) (w : World) : (Instr.index 85 (.agg #[.int .i64 a0, .int .i64 a1, .int .i64 a2, .int .i64 a3, .int .i64 b0, .int .i64 b1, .int .i64 b2, .int .i64 b3, .int .i64 c0, .int .i64 c1, .int .i64 c2, .int .i64 c3, .int .i64 d0, .int .i64 d1, .int .i64 d2, .int .i64 d3]) (.int .i64 k)).run Tryz.prog w = .ok (.agg #[.int .i64 r0, .int .i64 r1, .int .i64 r2, .int .i64 r3]) w := by
  obtain rfl | rfl | rfl | rfl : k = 0 ∨ k = 1 ∨ k = 2 ∨ k = 3 := by omega
  · simp at h
    obtain ⟨rfl, rfl, rfl, rfl⟩ := h
    exact run_row0 ..
  · simp at h
    obtain ⟨rfl, rfl, rfl, rfl⟩ := h
    exact run_row1 ..
  · simp at h
    obtain ⟨rfl, rfl, rfl, rfl⟩ := h
    exact run_row2 ..
  · simp at h
    obtain ⟨rfl, rfl, rfl, rfl⟩ := h
    exact run_row3 ..
set_option maxHeartbeats 4000000 in
set_option maxRecDepth 100000 in
theorem impl_views_result (q : Int) (xss : List (List Int)) (w : World) (hs : Sq xss) :
    Calls Tryz.prog 81 #[ag2 xss, .int .i64 q] w fun e w' => ∃ u b0, e = .returned u ∧ OwMirrorResult w' u ⟨0, ⟨q, xss⟩⟩ b0 ∧ (∀ y ∈ b0, w.heap.size ≤ y) ∧ Below w.heap.size w w' := by
  obtain ⟨i0, hi, hz0, hz1, hz2⟩ := info_parts Tryz.infoS
  have HS : Hid (Sq xss) := hs
  obtain ⟨a0, a1, a2, a3, b0, b1, b2, b3, c0, c1, c2, c3, d0, d1, d2, d3, hx⟩ := hs.lit
  have HX : Hid (xss = [[a0, a1, a2, a3], [b0, b1, b2, b3], [c0, c1, c2, c3], [d0, d1, d2, d3]]) := hx
  have e0 : ag2 xss = .agg #[.int .i64 a0, .int .i64 a1, .int .i64 a2, .int .i64 a3, .int .i64 b0, .int .i64 b1, .int .i64 b2, .int .i64 b3, .int .i64 c0, .int .i64 c1, .int .i64 c2, .int .i64 c3, .int .i64 d0, .int .i64 d1, .int .i64 d2, .int .i64 d3] := by rw [hx]; rfl
  rw [e0]
  clear e0 hs hx
  have B0 : Below w.heap.size w ((w.alloc (.cells #[.int .i64 a0, .int .i64 a1, .int .i64 a2, .int .i64 a3, .int .i64 b0, .int .i64 b1, .int .i64 b2, .int .i64 b3, .int .i64 c0, .int .i64 c1, .int .i64 c2, .int .i64 c3, .int .i64 d0, .int .i64 d1, .int .i64 d2, .int .i64 d3] 85)).alloc (.cells #[.int .i64 0, .int .i64 0, .slice none 0 0] 102)) := (by repeat (first | exact Below.refl _ _ | refine Below.drew ?_ | refine below_drewN ?_ _ | refine Below.setCell ?_ (by first | omega | (simp; done) | (simp; omega)) _ | refine Below.alloc ?_ (by first | omega | (simp; done) | (simp; omega)) _))
  have X0 : Blk ((w.alloc (.cells #[.int .i64 a0, .int .i64 a1, .int .i64 a2, .int .i64 a3, .int .i64 b0, .int .i64 b1, .int .i64 b2, .int .i64 b3, .int .i64 c0, .int .i64 c1, .int .i64 c2, .int .i64 c3, .int .i64 d0, .int .i64 d1, .int .i64 d2, .int .i64 d3] 85)).alloc (.cells #[.int .i64 0, .int .i64 0, .slice none 0 0] 102)) w.heap.size 85 #[.int .i64 a0, .int .i64 a1, .int .i64 a2, .int .i64 a3, .int .i64 b0, .int .i64 b1, .int .i64 b2, .int .i64 b3, .int .i64 c0, .int .i64 c1, .int .i64 c2, .int .i64 c3, .int .i64 d0, .int .i64 d1, .int .i64 d2, .int .i64 d3] := (Blk.new w _ _).alloc _
  have Y0 : Blk ((w.alloc (.cells #[.int .i64 a0, .int .i64 a1, .int .i64 a2, .int .i64 a3, .int .i64 b0, .int .i64 b1, .int .i64 b2, .int .i64 b3, .int .i64 c0, .int .i64 c1, .int .i64 c2, .int .i64 c3, .int .i64 d0, .int .i64 d1, .int .i64 d2, .int .i64 d3] 85)).alloc (.cells #[.int .i64 0, .int .i64 0, .slice none 0 0] 102)) (w.heap.size + 1) 102 #[.int .i64 0, .int .i64 0, .slice none 0 0] := by simpa using Blk.new (w.alloc (.cells #[.int .i64 a0, .int .i64 a1, .int .i64 a2, .int .i64 a3, .int .i64 b0, .int .i64 b1, .int .i64 b2, .int .i64 b3, .int .i64 c0, .int .i64 c1, .int .i64 c2, .int .i64 c3, .int .i64 d0, .int .i64 d1, .int .i64 d2, .int .i64 d3] 85)) 102 #[.int .i64 0, .int .i64 0, .slice none 0 0]
  go_enter Tryz.func81, Tryz.ntmps81
  go_wp2_with (at_make; refine wpList_make_full _ rfl _ _ 22 rfl (w.heap.size + 2) 25 i0 (.slice none 0 0) 1 Tryz.underlying22 hi hz0 hz1 _ _ _ _ 4 rfl rfl rfl rfl (by rw [hz2]; omega) (by unfold maxLen; omega) (by simp) ?_)
  intro w1 hown hgrow
  have hb1 : Below (w.heap.size + 2) ((w.alloc (.cells #[.int .i64 a0, .int .i64 a1, .int .i64 a2, .int .i64 a3, .int .i64 b0, .int .i64 b1, .int .i64 b2, .int .i64 b3, .int .i64 c0, .int .i64 c1, .int .i64 c2, .int .i64 c3, .int .i64 d0, .int .i64 d1, .int .i64 d2, .int .i64 d3] 85)).alloc (.cells #[.int .i64 0, .int .i64 0, .slice none 0 0] 102)) w1 := (Below.refl _ _).grown hgrow (by simp) (fun k hk => by cases hk)
  have hO1 : Own w1 25 1 (.slice (some ⟨w.heap.size + 2, 0, none⟩) 4 4) 4 (List.replicate 4 (.slice none 0 0)) [w.heap.size + 2] := by
    obtain ⟨bs, h1, h2⟩ := Own.of_owns hown
    have hbs : bs = [w.heap.size + 2] := by
      rcases h1.2 with ⟨k, _⟩ | ⟨g', cap', cur, rfl, k, _⟩
      · cases k
      · simp at k; rw [← k.1]
    rw [hbs, toList_madeCells_one] at h1
    simpa using h1
  have X1 := X0.below hb1 (by omega)
  have Y1 := Y0.below hb1 (by omega)
  have B1 := B0.trans (hb1.mono (by omega))
  clear hown hgrow hb1 X0 Y0 B0
  have xa := X1.at.1
  go_wp2_with fail
  go_loopw [6, 7, 10] (fun _ _ i wr => ∃ k : Nat, ∃ vs : List Value, ∃ bi : List (List Nat), k ≤ 4 ∧ i = .int .i64 k ∧ Blk wr (w.heap.size + 1) 102 #[.int .i64 0, .int .i64 0, .slice none 0 0] ∧ Own wr 25 1 (.slice (some ⟨w.heap.size + 2, 0, none⟩) 4 4) 4 (vs ++ List.replicate (4 - k) (.slice none 0 0)) [w.heap.size + 2] ∧ Rows wr vs (xss.take k) bi ∧ ((w.heap.size + 2) :: bi.flatten).Nodup ∧ (∀ x ∈ bi.flatten, w.heap.size + 2 < x) ∧ Below w.heap.size w wr) (fun _ _ i _ => 4 - (intOf i).toNat)
  case atStart => exact ⟨0, [], [], Nat.zero_le _, rfl, Y1, by simpa using hO1, trivial, by simp, by simp, B1⟩
  case round =>
    clear hO1 B1 X1 Y1 xa
    obtain ⟨k, vs, bi, hk, rfl, Y, hO, hR, hnd, hgt, B⟩ := hrel
    by_cases hlt : k < 4
    · obtain ⟨r0, r1, r2, r3, hr⟩ := HS.out.row k hlt
      have hidx := run_row a0 a1 a2 a3 b0 b1 b2 b3 c0 c1 c2 c3 d0 d1 d2 d3 k hlt r0 r1 r2 r3 (by rw [← HX.out]; exact hr)
      have hvl : vs.length = k := by rw [hR.len.1]; simp [HS.out.1]; omega
      have HT : Hid (xss.take (k + 1) = xss.take k ++ [[r0, r1, r2, r3]]) := by
        show _ = _
        have : k < xss.length := by rw [HS.out.1]; exact hlt
        rw [List.take_succ_eq_append_getElem this, ← hr]
        simp [this]
      have hi' : (k : Int) < 4 := by omega
      have hl0 := Y.lt
      have hl1 := Own.lt hO _ (List.mem_singleton.2 rfl)
      clear hr
      go_wp2_with fail
      refine Calls.at (F := fun V => Below wr.heap.size wr V) ((Below.refl wr.heap.size wr).alloc (Nat.le_refl _) _) ?_
      rintro w2 hb2
      refine (impl_list [r0, r1, r2, r3] _ rfl).mono ?_
      rintro e w3 ⟨g, rfl, hI, hg, hb3⟩
      have hbb := hb2.trans (hb3.mono hb2.size)
      have hg2 : wr.heap.size ≤ g := Nat.le_trans hb2.size hg
      have Y2 := Y.keep hbb
      have hO2 := Own.keep hO hbb
      have hR2 := hR.keep hbb
      have B2 := B.trans (hbb.mono B.size)
      have lt1 := hR.lt
      have c1 : ∃ u, w3.cell? ⟨w.heap.size + 2, k, none⟩ = some u := ⟨_, (Own.cell hO2 k (by omega)).trans (List.getElem?_eq_getElem (by simp; omega))⟩
      obtain ⟨u, c1⟩ := c1
      have f1 : w3.frozen? ⟨w.heap.size + 2, k, none⟩ = false := Own.frozen hO2 k
      have hset := Own.set hO2 k (.slice (some ⟨g, 0, none⟩) 4 4)
      rw [nils_set vs 4 k _ hlt hvl] at hset
      have B3 : Below w.heap.size w (w3.setCell ⟨w.heap.size + 2, k, none⟩ (.slice (some ⟨g, 0, none⟩) 4 4)) := B2.setCell (by simp) _
      have Y3 : Blk (w3.setCell ⟨w.heap.size + 2, k, none⟩ (.slice (some ⟨g, 0, none⟩) 4 4)) (w.heap.size + 1) 102 #[.int .i64 0, .int .i64 0, .slice none 0 0] := Y2.setOther _ _ (by simp)
      have R3 : Rows (w3.setCell ⟨w.heap.size + 2, k, none⟩ (.slice (some ⟨g, 0, none⟩) 4 4)) (vs ++ [.slice (some ⟨g, 0, none⟩) 4 4]) (xss.take (k + 1)) (bi ++ [[g]]) := by
        rw [HT.out]
        refine Rows.snoc (hR2.frame fun x hx => Below.heap_setCell _ _ _ _ (by have := hgt x hx; simp; omega)) (Ints.setOther hI _ _ (by simp; omega))
      have N3 : ((w.heap.size + 2) :: (bi ++ [[g]]).flatten).Nodup := by
        simp only [List.flatten_append, List.flatten_cons, List.flatten_nil, List.append_nil]
        rw [← List.cons_append]
        refine List.nodup_append.2 ⟨hnd, by simp, ?_⟩
        intro x hx y hy
        simp at hy
        subst hy
        rcases List.mem_cons.1 hx with rfl | hx
        · omega
        · have := lt1 x hx; omega
      have G3 : ∀ x ∈ (bi ++ [[g]]).flatten, w.heap.size + 2 < x := by
        intro x hx
        simp only [List.flatten_append, List.flatten_cons, List.flatten_nil, List.append_nil, List.mem_append, List.mem_singleton] at hx
        rcases hx with hx | rfl
        · exact hgt x hx
        · omega
      clear hI Y hO hR Y2 hO2 hR2 B B2 hnd hgt lt1 hbb hb2 hb3 hidx
      go_wp2
      go_roundw
      case rel => exact ⟨k + 1, _, _, by omega, by go_num, Y3, hset, R3, N3, G3, B3⟩
      case measure => simp [intOf]; omega
    · obtain rfl : k = 4 := by omega
      have e : xss.take 4 = xss := List.take_of_length_le (by rw [HS.out.1]; omega)
      rw [e] at hR
      have hM : Mat wr (.slice (some ⟨w.heap.size + 2, 0, none⟩) 4 4) xss ([w.heap.size + 2] ++ bi.flatten) := ⟨vs, [w.heap.size + 2], bi, by rw [HS.out.1]; simpa using hO, hR, rfl, by simpa using hnd⟩
      have ya := Y.at.1
      have yb := Y.at.2
      have yl := Y.lt
      have OO : ∀ W, Off [w.heap.size + 1] wr W → (∃ u b0, Ending.returned (.agg #[.int .i64 0, .int .i64 q, .slice (some ⟨w.heap.size + 2, 0, none⟩) 4 4]) = .returned u ∧ OwMirrorResult W u ⟨0, ⟨q, xss⟩⟩ b0 ∧ (∀ y ∈ b0, w.heap.size ≤ y) ∧ Below w.heap.size w W) := fun W OO => ⟨_, _, rfl, ⟨some ⟨w.heap.size + 2, 0, none⟩, 4, by dsimp only; rw [HS.out.1], by dsimp only; rw [HS.out.1]; exact hM.off OO (fun x hx hm => by simp at hm; subst hm; simp at hx; have := hgt _ (by simpa using hx); omega)⟩, fun y hy => by simp at hy; rcases hy with h | h; omega; (have := hgt y (by simpa using h); omega), B.trans (OO.toBelow B.size (by simp))⟩
      clear hO hR hM hnd hgt e
      go_wp2
      exact bodyPost_ret (v := .agg #[.int .i64 0, .int .i64 q, .slice (some ⟨w.heap.size + 2, 0, none⟩) 4 4]) (by simp [results, Tryz.results81, go_sem, ya]) rfl (OO _ (((Off.refl _ _).setCell _ _ (by simp)).setCell _ _ (by simp) |>.setCell _ _ (by simp)))
end Go.Proofs.YtepobckhfodngaoGreat
