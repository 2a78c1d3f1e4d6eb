/-
  Contracts of chapter 3 of the program: all four views in one array.
-/
import Derived.Test.YtepobckhfodngaoGreatMirI
namespace Go.Proofs.YtepobckhfodngaoGreat
open Go.ChangeShapes Go.WideShapes Go.ChangeAt Go.RowKit
set_option linter.unusedVariables false

/-- four rows of four -/
def Sq (xss : List (List Int)) : Prop := xss.length = 4 ∧ ∀ i, i < 4 → (xss.getD i []).length = 4
theorem Sq.lit {xss : List (List Int)} (h : Sq xss) : ∃ a0 a1 a2 a3 b0 b1 b2 b3 c0 c1 c2 c3 d0 d1 d2 d3, xss = [[a0, a1, a2, a3], [b0, b1, b2, b3], [c0, c1, c2, c3], [d0, d1, d2, d3]] := by
  obtain ⟨h4, hr⟩ := h
  obtain ⟨a, b, c, d, rfl⟩ := four xss h4
  obtain ⟨a0, a1, a2, a3, rfl⟩ := four a (hr 0 (by omega))
  obtain ⟨b0, b1, b2, b3, rfl⟩ := four b (hr 1 (by omega))
  obtain ⟨c0, c1, c2, c3, rfl⟩ := four c (hr 2 (by omega))
  obtain ⟨d0, d1, d2, d3, rfl⟩ := four d (hr 3 (by omega))
  exact ⟨_, _, _, _, _, _, _, _, _, _, _, _, _, _, _, _, rfl⟩
theorem Sq.of (a0 a1 a2 a3 b0 b1 b2 b3 c0 c1 c2 c3 d0 d1 d2 d3 : Int) : Sq [[a0, a1, a2, a3], [b0, b1, b2, b3], [c0, c1, c2, c3], [d0, d1, d2, d3]] :=
  ⟨rfl, fun i hi => by obtain rfl | rfl | rfl | rfl : i = 0 ∨ i = 1 ∨ i = 2 ∨ i = 3 := by omega
                       all_goals rfl⟩
theorem Sq.row {xss : List (List Int)} (h : Sq xss) (i : Nat) (hi : i < 4) : ∃ a b c d, xss.getD i [] = [a, b, c, d] := four _ (h.2 i hi)
/-- four lists in one array -/
def ag2 (xss : List (List Int)) : Value := ag xss.flatten
def zero4 : List (List Int) := [[0, 0, 0, 0], [0, 0, 0, 0], [0, 0, 0, 0], [0, 0, 0, 0]]
def cells2 (xss : List (List Int)) : Array Value := (xss.flatten.map (Value.int .i64)).toArray
theorem cells2_lit (a0 a1 a2 a3 b0 b1 b2 b3 c0 c1 c2 c3 d0 d1 d2 d3 : Int) : cells2 [[a0, a1, a2, a3], [b0, b1, b2, b3], [c0, c1, c2, c3], [d0, d1, d2, d3]] = #[.int .i64 a0, .int .i64 a1, .int .i64 a2, .int .i64 a3, .int .i64 b0, .int .i64 b1, .int .i64 b2, .int .i64 b3, .int .i64 c0, .int .i64 c1, .int .i64 c2, .int .i64 c3, .int .i64 d0, .int .i64 d1, .int .i64 d2, .int .i64 d3] := rfl
theorem Sq.ext {xss yss : List (List Int)} (h : Sq xss) (k : Sq yss) (e : ∀ j, j < 4 → xss.getD j [] = yss.getD j []) : xss = yss := by
  obtain ⟨a, b, c, d, rfl⟩ := four xss h.1
  obtain ⟨a', b', c', d', rfl⟩ := four yss k.1
  have e0 := e 0 (by omega)
  have e1 := e 1 (by omega)
  have e2 := e 2 (by omega)
  have e3 := e 3 (by omega)
  simp at e0 e1 e2 e3
  rw [e0, e1, e2, e3]
theorem Sq.set {xss : List (List Int)} (h : Sq xss) (k : Nat) (ys : List Int) (hy : ys.length = 4) : Sq (xss.set k ys) := by
  refine ⟨by simp [h.1], fun i hi => ?_⟩
  by_cases e : k = i
  · subst e
    have : k < xss.length := by rw [h.1]; exact hi
    simp [this, hy]
  · have := h.2 i hi
    simpa [List.getD_eq_getElem?_getD, List.getElem?_set_ne e] using this
set_option maxHeartbeats 4000000 in
set_option maxRecDepth 100000 in
theorem impl_viewsOf (v : Value) (x : MMirror) (w : World) (hv : RdMirror w v x) (hs : Sq x.xViews) :
    Calls Tryz.prog 76 #[v] w fun e w' => e = .returned (ag2 x.xViews) ∧ Below w.heap.size w w' := by
  obtain ⟨q, xss⟩ := x
  obtain ⟨p, c, rfl, hv⟩ := hv
  dsimp only at hv hs ⊢
  have hl := hs.1
  have HV : Hid (ReadsM w (.slice p xss.length c) xss) := hv
  have HS : Hid (Sq xss) := hs
  obtain ⟨w1, ew1⟩ : ∃ x, x = ((w.alloc (.cells #[.int .i64 q, .slice p 4 c] 36)).alloc (.cells (cells2 zero4) 85)).alloc (.cells (cells2 zero4) 85) := ⟨_, rfl⟩
  have B1 : Below w.heap.size w w1 := by rw [ew1]; exact (by repeat (first | exact Below.refl _ _ | refine Below.drew ?_ | refine below_drewN ?_ _ | refine Below.setCell ?_ (by first | omega | (simp; done) | (simp; omega)) _ | refine Below.alloc ?_ (by first | omega | (simp; done) | (simp; omega)) _))
  have X1 : Blk w1 w.heap.size 36 #[.int .i64 q, .slice p 4 c] := by rw [ew1]; exact ((Blk.new w _ _).alloc _).alloc _
  have Y1 : Blk w1 (w.heap.size + 1) 85 (cells2 zero4) := by rw [ew1]; exact (by simpa using Blk.new (w.alloc (.cells #[.int .i64 q, .slice p 4 c] 36)) 85 (cells2 zero4) : Blk ((w.alloc (.cells #[.int .i64 q, .slice p 4 c] 36)).alloc (.cells (cells2 zero4) 85)) (w.heap.size + 1) 85 (cells2 zero4)).alloc _
  have Z1 : Blk w1 (w.heap.size + 2) 85 (cells2 zero4) := by rw [ew1]; simpa using Blk.new ((w.alloc (.cells #[.int .i64 q, .slice p 4 c] 36)).alloc (.cells (cells2 zero4) 85)) 85 (cells2 zero4)
  rw [hl]
  clear hv hs hl
  have xa := X1.at.1
  rw [ew1] at xa
  go_enter Tryz.func76, Tryz.ntmps76
  go_wp2
  go_loopw [4, 5, 9] (fun _ _ i wr => ∃ k : Nat, ∃ yss : List (List Int), k ≤ 4 ∧ i = .int .i64 k ∧ Sq yss ∧ (∀ j, j < k → yss.getD j [] = xss.getD j []) ∧ Blk wr (w.heap.size + 1) 85 (cells2 zero4) ∧ Blk wr (w.heap.size + 2) 85 (cells2 yss) ∧ Below w.heap.size w wr) (fun _ _ i _ => 4 - (intOf i).toNat)
  case atStart => rw [ew1] at B1 Y1 Z1; exact ⟨0, zero4, Nat.zero_le _, rfl, Sq.of .., fun j hj => by omega, Y1, Z1, B1⟩
  case round =>
    clear X1 Y1 Z1 B1 xa ew1
    obtain ⟨k, yss, hk, rfl, hsq, heq, Y, Z, B⟩ := hrel
    by_cases hlt : k < 4
    · obtain ⟨gb, off, pq, dq, rfl, hltb, c0, r0⟩ := HV.out.lane k (by rw [HS.out.1]; exact hlt)
      have hrow := HS.out.2 k hlt
      have c1 : wr.cell? ⟨gb, off + k, none⟩ = some (.slice pq (xss.getD k []).length dq) := (B.cell (p := ⟨gb, off + k, none⟩) hltb).trans c0
      have r1 := r0.below B
      have HQ : Hid (Sq (yss.set k (xss.getD k []))) := hsq.set k _ hrow
      have HE : Hid (∀ j, j < k + 1 → (yss.set k (xss.getD k [])).getD j [] = xss.getD j []) := fun j hj => by
        by_cases e : k = j
        · subst e
          have : k < yss.length := by rw [hsq.1]; exact hlt
          simp [this]
        · have := heq j (by omega)
          simpa [List.getD_eq_getElem?_getD, List.getElem?_set_ne e] using this
      have hi : (k : Int) < 4 := by omega
      rw [hrow] at c1
      have r2 : Reads wr .i64 (.slice pq 4 dq) (xss.getD k []) := by rw [← hrow]; exact r1
      clear c0 r0 r1 heq
      obtain ⟨x0, x1, x2, x3, hx⟩ := four _ hrow
      generalize xss.getD k [] = ys at *
      subst hx
      go_wp2_with fail
      refine (impl_viewOf _ _ _ r2 rfl).mono ?_
      rintro e w2 ⟨rfl, hb2⟩
      rw [ag4]
      have Y2 := Y.keep hb2
      have Z2 := Z.keep hb2
      have B2 := B.trans (hb2.mono B.size)
      clear Y Z B c1 r2 hb2
      obtain ⟨a0, a1, a2, a3, b0, b1, b2, b3, c0, c1, c2, c3, d0, d1, d2, d3, rfl⟩ := hsq.lit
      rw [cells2_lit] at Z2
      have za := Z2.at.1
      have zb := Z2.at.2
      have zl := Z2.lt
      obtain rfl | rfl | rfl | rfl : k = 0 ∨ k = 1 ∨ k = 2 ∨ k = 3 := by omega
      · go_wp2
        go_roundw
        case rel => exact ⟨1, _, by omega, rfl, HQ.out, HE.out, ((((Y2.setOther _ _ (by simp)).setOther _ _ (by simp)).setOther _ _ (by simp)).setOther _ _ (by simp)), Blk.of_eq ((((Z2.set 0 _).set 1 _).set 2 _).set 3 _) rfl, ((((B2.setCell (by simp; omega) _).setCell (by simp; omega) _).setCell (by simp; omega) _).setCell (by simp; omega) _)⟩
        case measure => simp [intOf]
      · go_wp2
        go_roundw
        case rel => exact ⟨2, _, by omega, rfl, HQ.out, HE.out, ((((Y2.setOther _ _ (by simp)).setOther _ _ (by simp)).setOther _ _ (by simp)).setOther _ _ (by simp)), Blk.of_eq ((((Z2.set 4 _).set 5 _).set 6 _).set 7 _) rfl, ((((B2.setCell (by simp; omega) _).setCell (by simp; omega) _).setCell (by simp; omega) _).setCell (by simp; omega) _)⟩
        case measure => simp [intOf]
      · go_wp2
        go_roundw
        case rel => exact ⟨3, _, by omega, rfl, HQ.out, HE.out, ((((Y2.setOther _ _ (by simp)).setOther _ _ (by simp)).setOther _ _ (by simp)).setOther _ _ (by simp)), Blk.of_eq ((((Z2.set 8 _).set 9 _).set 10 _).set 11 _) rfl, ((((B2.setCell (by simp; omega) _).setCell (by simp; omega) _).setCell (by simp; omega) _).setCell (by simp; omega) _)⟩
        case measure => simp [intOf]
      · go_wp2
        go_roundw
        case rel => exact ⟨4, _, by omega, rfl, HQ.out, HE.out, ((((Y2.setOther _ _ (by simp)).setOther _ _ (by simp)).setOther _ _ (by simp)).setOther _ _ (by simp)), Blk.of_eq ((((Z2.set 12 _).set 13 _).set 14 _).set 15 _) rfl, ((((B2.setCell (by simp; omega) _).setCell (by simp; omega) _).setCell (by simp; omega) _).setCell (by simp; omega) _)⟩
        case measure => simp [intOf]
    · obtain rfl : k = 4 := by omega
      have e : yss = xss := Sq.ext hsq HS.out fun j hj => heq j hj
      subst e
      clear heq HV HS
      obtain ⟨a0, a1, a2, a3, b0, b1, b2, b3, c0, c1, c2, c3, d0, d1, d2, d3, rfl⟩ := hsq.lit
      have OO : ∀ W, Off [w.heap.size + 1] wr W → (Ending.returned (.agg #[.int .i64 a0, .int .i64 a1, .int .i64 a2, .int .i64 a3, .int .i64 b0, .int .i64 b1, .int .i64 b2, .int .i64 b3, .int .i64 c0, .int .i64 c1, .int .i64 c2, .int .i64 c3, .int .i64 d0, .int .i64 d1, .int .i64 d2, .int .i64 d3]) = .returned (ag2 [[a0, a1, a2, a3], [b0, b1, b2, b3], [c0, c1, c2, c3], [d0, d1, d2, d3]]) ∧ Below w.heap.size w W) := fun W OO => ⟨rfl, B.trans (OO.toBelow B.size (by simp))⟩
      rw [cells2_lit] at Z
      have ya := Y.at.1
      have yb := Y.at.2
      have za := Z.at.1
      rw [zero4, cells2_lit] at ya
      go_wp2
      exact bodyPost_ret (v := .agg #[.int .i64 a0, .int .i64 a1, .int .i64 a2, .int .i64 a3, .int .i64 b0, .int .i64 b1, .int .i64 b2, .int .i64 b3, .int .i64 c0, .int .i64 c1, .int .i64 c2, .int .i64 c3, .int .i64 d0, .int .i64 d1, .int .i64 d2, .int .i64 d3]) (by simp [results, Tryz.results76, go_sem, ya]) rfl (OO _ (((((((((((((((((Off.refl _ _).setCell _ _ (by simp)).setCell _ _ (by simp)).setCell _ _ (by simp)).setCell _ _ (by simp)).setCell _ _ (by simp)).setCell _ _ (by simp)).setCell _ _ (by simp)).setCell _ _ (by simp)).setCell _ _ (by simp)).setCell _ _ (by simp)).setCell _ _ (by simp)).setCell _ _ (by simp)).setCell _ _ (by simp)).setCell _ _ (by simp)).setCell _ _ (by simp)).setCell _ _ (by simp)))
end Go.Proofs.YtepobckhfodngaoGreat
