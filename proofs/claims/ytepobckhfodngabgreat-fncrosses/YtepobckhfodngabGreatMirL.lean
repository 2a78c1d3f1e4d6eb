/-
  Contracts of chapter 3 of the program: what all but one know.
-/
import Derived.Test.YtepobckhfodngabGreatMirK
namespace Go.Proofs.YtepobckhfodngabGreat
open Go.ChangeShapes Go.WideShapes Go.ChangeAt Go.RowKit
set_option linter.unusedVariables false

def cells1 (xs : List Int) : Array Value := (xs.map (Value.int .i64)).toArray
theorem Blk.one {w : World} {b : Nat} {T : TypeId} {xs : List Int} (h : Blk w b T (cells1 xs)) (m : Nat) (hm : m < xs.length) : w.cell? ⟨b, m, none⟩ = some (.int .i64 (xs.getD m 0)) := by
  rw [h.at.1 m]
  simp [cells1, hm]
theorem Blk.set1 {w : World} {b : Nat} {T : TypeId} {xs : List Int} (h : Blk w b T (cells1 xs)) (m : Nat) (y : Int) : Blk (w.setCell ⟨b, m, none⟩ (.int .i64 y)) b T (cells1 (xs.set m y)) :=
  Blk.of_eq (h.set m _) (by simp [cells1, List.map_set])
theorem run_one (a b c d : Int) (k : Nat) (hk : k < 4) (w : World) : (Instr.index 71 (.agg #[.int .i64 a, .int .i64 b, .int .i64 c, .int .i64 d]) (.int .i64 k)).run Tryz.prog w = .ok (.int .i64 ([a, b, c, d].getD k 0)) w := by
  obtain rfl | rfl | rfl | rfl : k = 0 ∨ k = 1 ∨ k = 2 ∨ k = 3 := by omega
  · show (Instr.index 71 (.agg #[.int .i64 a, .int .i64 b, .int .i64 c, .int .i64 d]) (.int .i64 0)).run Tryz.prog w = .ok (.int .i64 a) w
    kernel_rfl
  · show (Instr.index 71 (.agg #[.int .i64 a, .int .i64 b, .int .i64 c, .int .i64 d]) (.int .i64 1)).run Tryz.prog w = .ok (.int .i64 b) w
    kernel_rfl
  · show (Instr.index 71 (.agg #[.int .i64 a, .int .i64 b, .int .i64 c, .int .i64 d]) (.int .i64 2)).run Tryz.prog w = .ok (.int .i64 c) w
    kernel_rfl
  · show (Instr.index 71 (.agg #[.int .i64 a, .int .i64 b, .int .i64 c, .int .i64 d]) (.int .i64 3)).run Tryz.prog w = .ok (.int .i64 d) w
    kernel_rfl
/-- the parts that are put together, m parts of party i's view behind what there was -/
def wIn (xss : List (List Int)) (i : Nat) (ps : List Int) (m : Nat) : List Int := (List.range 4).map fun (j : Nat) => if j = i ∨ m ≤ j then ps.getD j 0 else pt xss i j
def wStep (xss : List (List Int)) (but : Int) (i : Nat) (ps : List Int) : List Int := if (i : Int) = but then ps else wIn xss i ps 4
def wholeL (xss : List (List Int)) (but : Int) : Nat → List Int
  | 0 => [0, 0, 0, 0]
  | i + 1 => wStep xss but i (wholeL xss but i)
theorem wIn_length (xss : List (List Int)) (i : Nat) (ps : List Int) (m : Nat) : (wIn xss i ps m).length = 4 := by simp [wIn]
theorem wholeL_length (xss : List (List Int)) (but : Int) : ∀ i, (wholeL xss but i).length = 4
  | 0 => rfl
  | i + 1 => by
    have := wholeL_length xss but i
    unfold wholeL wStep
    split
    · exact this
    · exact wIn_length ..
theorem wIn_zero (xss : List (List Int)) (i : Nat) (ps : List Int) (h : ps.length = 4) : wIn xss i ps 0 = ps := by
  obtain ⟨a, b, c, d, rfl⟩ := four ps h
  simp [wIn, List.range_succ]
theorem wIn_getD (xss : List (List Int)) (i : Nat) (ps : List Int) (m j : Nat) (hj : j < 4) : (wIn xss i ps m).getD j 0 = if j = i ∨ m ≤ j then ps.getD j 0 else pt xss i j := by
  simp [wIn, hj]
theorem ext4 {xs ys : List Int} (h : xs.length = 4) (k : ys.length = 4) (e : ∀ j, j < 4 → xs.getD j 0 = ys.getD j 0) : xs = ys := by
  obtain ⟨a, b, c, d, rfl⟩ := four xs h
  obtain ⟨a', b', c', d', rfl⟩ := four ys k
  have e0 := e 0 (by omega)
  have e1 := e 1 (by omega)
  have e2 := e 2 (by omega)
  have e3 := e 3 (by omega)
  simp at e0 e1 e2 e3
  rw [e0, e1, e2, e3]
theorem getD_set4 (xs : List Int) (h : xs.length = 4) (m : Nat) (y : Int) (j : Nat) (hj : j < 4) : (xs.set m y).getD j 0 = if m = j then y else xs.getD j 0 := by
  split
  · rename_i e
    subst e
    have : m < xs.length := by omega
    simp [this]
  · rename_i e
    simp [List.getD_eq_getElem?_getD, List.getElem?_set_ne e]
theorem wIn_set (xss : List (List Int)) (i : Nat) (ps : List Int) (m : Nat) (hm : m < 4) (hne : m ≠ i) : (wIn xss i ps m).set m (pt xss i m) = wIn xss i ps (m + 1) := by
  refine ext4 (by simp [wIn_length]) (wIn_length ..) fun j hj => ?_
  rw [getD_set4 _ (wIn_length ..) _ _ _ hj, wIn_getD _ _ _ _ _ hj, wIn_getD _ _ _ _ _ hj]
  by_cases e : m = j
  · subst e
    rw [if_pos rfl, if_neg (by omega)]
  · rw [if_neg e]
    by_cases e2 : j = i ∨ m ≤ j
    · rw [if_pos e2, if_pos (by omega)]
    · rw [if_neg e2, if_neg (by omega)]
theorem wIn_skip (xss : List (List Int)) (i : Nat) (ps : List Int) (m : Nat) (hne : m = i) : wIn xss i ps m = wIn xss i ps (m + 1) := by
  refine ext4 (wIn_length ..) (wIn_length ..) fun j hj => ?_
  rw [wIn_getD _ _ _ _ _ hj, wIn_getD _ _ _ _ _ hj]
  by_cases e2 : j = i ∨ m ≤ j
  · rw [if_pos e2, if_pos (by omega)]
  · rw [if_neg e2, if_neg (by omega)]
set_option maxHeartbeats 4000000 in
set_option maxRecDepth 100000 in
theorem impl_whole (xss : List (List Int)) (but : Int) (w : World) (hs : Sq xss) :
    Calls Tryz.prog 44 #[ag2 xss, .int .i64 but] w fun e w' => e = .returned (ag (wholeL xss but 4)) ∧ Below w.heap.size w w' := by
  have HS : Hid (Sq xss) := hs
  obtain ⟨a0, a1, a2, a3, b0, b1, b2, b3, c0, c1, c2, c3, d0, d1, d2, d3, hx⟩ := hs.lit
  have HX : Hid (xss = [[a0, a1, a2, a3], [b0, b1, b2, b3], [c0, c1, c2, c3], [d0, d1, d2, d3]]) := hx
  have e0 : ag2 xss = .agg #[.int .i64 a0, .int .i64 a1, .int .i64 a2, .int .i64 a3, .int .i64 b0, .int .i64 b1, .int .i64 b2, .int .i64 b3, .int .i64 c0, .int .i64 c1, .int .i64 c2, .int .i64 c3, .int .i64 d0, .int .i64 d1, .int .i64 d2, .int .i64 d3] := by rw [hx]; rfl
  rw [e0]
  clear e0 hs hx
  have B0 : Below w.heap.size w (((w.alloc (.cells #[.int .i64 a0, .int .i64 a1, .int .i64 a2, .int .i64 a3, .int .i64 b0, .int .i64 b1, .int .i64 b2, .int .i64 b3, .int .i64 c0, .int .i64 c1, .int .i64 c2, .int .i64 c3, .int .i64 d0, .int .i64 d1, .int .i64 d2, .int .i64 d3] 73)).alloc (.cells #[.int .i64 0, .int .i64 0, .int .i64 0, .int .i64 0] 71)).alloc (.cells #[.int .i64 0, .int .i64 0, .int .i64 0, .int .i64 0] 71)) := (by repeat (first | exact Below.refl _ _ | refine Below.drew ?_ | refine below_drewN ?_ _ | refine Below.setCell ?_ (by first | omega | (simp; done) | (simp; omega)) _ | refine Below.alloc ?_ (by first | omega | (simp; done) | (simp; omega)) _))
  have Y0 : Blk (((w.alloc (.cells #[.int .i64 a0, .int .i64 a1, .int .i64 a2, .int .i64 a3, .int .i64 b0, .int .i64 b1, .int .i64 b2, .int .i64 b3, .int .i64 c0, .int .i64 c1, .int .i64 c2, .int .i64 c3, .int .i64 d0, .int .i64 d1, .int .i64 d2, .int .i64 d3] 73)).alloc (.cells #[.int .i64 0, .int .i64 0, .int .i64 0, .int .i64 0] 71)).alloc (.cells #[.int .i64 0, .int .i64 0, .int .i64 0, .int .i64 0] 71)) (w.heap.size + 1) 71 (cells1 [0, 0, 0, 0]) := (by simpa using Blk.new (w.alloc (.cells #[.int .i64 a0, .int .i64 a1, .int .i64 a2, .int .i64 a3, .int .i64 b0, .int .i64 b1, .int .i64 b2, .int .i64 b3, .int .i64 c0, .int .i64 c1, .int .i64 c2, .int .i64 c3, .int .i64 d0, .int .i64 d1, .int .i64 d2, .int .i64 d3] 73)) 71 #[.int .i64 0, .int .i64 0, .int .i64 0, .int .i64 0] : Blk ((w.alloc (.cells #[.int .i64 a0, .int .i64 a1, .int .i64 a2, .int .i64 a3, .int .i64 b0, .int .i64 b1, .int .i64 b2, .int .i64 b3, .int .i64 c0, .int .i64 c1, .int .i64 c2, .int .i64 c3, .int .i64 d0, .int .i64 d1, .int .i64 d2, .int .i64 d3] 73)).alloc (.cells #[.int .i64 0, .int .i64 0, .int .i64 0, .int .i64 0] 71)) (w.heap.size + 1) 71 #[.int .i64 0, .int .i64 0, .int .i64 0, .int .i64 0]).alloc _
  have Z0 : Blk (((w.alloc (.cells #[.int .i64 a0, .int .i64 a1, .int .i64 a2, .int .i64 a3, .int .i64 b0, .int .i64 b1, .int .i64 b2, .int .i64 b3, .int .i64 c0, .int .i64 c1, .int .i64 c2, .int .i64 c3, .int .i64 d0, .int .i64 d1, .int .i64 d2, .int .i64 d3] 73)).alloc (.cells #[.int .i64 0, .int .i64 0, .int .i64 0, .int .i64 0] 71)).alloc (.cells #[.int .i64 0, .int .i64 0, .int .i64 0, .int .i64 0] 71)) (w.heap.size + 2) 71 (cells1 [0, 0, 0, 0]) := (by simpa using Blk.new ((w.alloc (.cells #[.int .i64 a0, .int .i64 a1, .int .i64 a2, .int .i64 a3, .int .i64 b0, .int .i64 b1, .int .i64 b2, .int .i64 b3, .int .i64 c0, .int .i64 c1, .int .i64 c2, .int .i64 c3, .int .i64 d0, .int .i64 d1, .int .i64 d2, .int .i64 d3] 73)).alloc (.cells #[.int .i64 0, .int .i64 0, .int .i64 0, .int .i64 0] 71)) 71 #[.int .i64 0, .int .i64 0, .int .i64 0, .int .i64 0] : Blk (((w.alloc (.cells #[.int .i64 a0, .int .i64 a1, .int .i64 a2, .int .i64 a3, .int .i64 b0, .int .i64 b1, .int .i64 b2, .int .i64 b3, .int .i64 c0, .int .i64 c1, .int .i64 c2, .int .i64 c3, .int .i64 d0, .int .i64 d1, .int .i64 d2, .int .i64 d3] 73)).alloc (.cells #[.int .i64 0, .int .i64 0, .int .i64 0, .int .i64 0] 71)).alloc (.cells #[.int .i64 0, .int .i64 0, .int .i64 0, .int .i64 0] 71)) (w.heap.size + 2) 71 #[.int .i64 0, .int .i64 0, .int .i64 0, .int .i64 0])
  go_enter Tryz.func44, Tryz.ntmps44
  go_wp2
  go_loopw [11] (fun i wr => ∃ k : Nat, k ≤ 4 ∧ i = .int .i64 k ∧ Blk wr (w.heap.size + 1) 71 (cells1 [0, 0, 0, 0]) ∧ Blk wr (w.heap.size + 2) 71 (cells1 (wholeL xss but k)) ∧ Below w.heap.size w wr) (fun i _ => 4 - (intOf i).toNat)
  case atStart => exact ⟨0, Nat.zero_le _, rfl, Y0, Z0, B0⟩
  case round =>
    clear Y0 Z0 B0
    obtain ⟨k, hk, rfl, Y, Z, B⟩ := hrel
    by_cases hlt : k < 4
    · obtain ⟨r0, r1, r2, r3, hr⟩ := HS.out.row k hlt
      have hidx := run_row a0 a1 a2 a3 b0 b1 b2 b3 c0 c1 c2 c3 d0 d1 d2 d3 k hlt r0 r1 r2 r3 (by rw [← HX.out]; exact hr)
      have HP : Hid (∀ m, [r0, r1, r2, r3].getD m 0 = pt xss k m) := fun m => by unfold pt; rw [hr]
      have hone := fun m hm => run_one r0 r1 r2 r3 m hm
      have hi' : (k : Int) < 4 := by omega
      have BW : Below w.heap.size w (wr.alloc (.cells #[.int .i64 r0, .int .i64 r1, .int .i64 r2, .int .i64 r3] 71)) := B.alloc B.size _
      have YW := Y.alloc (.cells #[.int .i64 r0, .int .i64 r1, .int .i64 r2, .int .i64 r3] 71)
      have ZW := Z.alloc (.cells #[.int .i64 r0, .int .i64 r1, .int .i64 r2, .int .i64 r3] 71)
      clear hr Y Z B
      by_cases hbut : (k : Int) = but
      · have HE : Hid (wholeL xss but (k + 1) = wholeL xss but k) := by show _ = _; rw [wholeL, wStep, if_pos hbut]
        have hne : ((k : Int) == but) = true := by simpa using hbut
        clear hbut hone
        go_wp2
        go_roundw
        case rel => exact ⟨k + 1, by omega, by go_num, YW, by rw [HE.out]; exact ZW, BW⟩
        case measure => simp [intOf]; omega
      · have HE : Hid (wholeL xss but (k + 1) = wIn xss k (wholeL xss but k) 4) := by show _ = _; rw [wholeL, wStep, if_neg hbut]
        have hne : ((k : Int) == but) = false := by simpa using hbut
        have HI0 : Hid (wIn xss k (wholeL xss but k) 0 = wholeL xss but k) := wIn_zero _ _ _ (wholeL_length ..)
        clear hbut
        generalize hps : wholeL xss but k = ps at *
        clear hps
        go_wp2_with fail
        clear hidx
        go_loopw [19] (fun i wr => ∃ m : Nat, m ≤ 4 ∧ i = .int .i64 m ∧ Blk wr (w.heap.size + 1) 71 (cells1 [0, 0, 0, 0]) ∧ Blk wr (w.heap.size + 2) 71 (cells1 (wIn xss k ps m)) ∧ Below w.heap.size w wr) (fun i _ => 4 - (intOf i).toNat)
        case atStart => exact ⟨0, Nat.zero_le _, rfl, YW, by rw [HI0.out]; exact ZW, BW⟩
        case round =>
          clear YW ZW BW
          obtain ⟨m, hm, rfl, Y, Z, B⟩ := hrel
          by_cases hlt2 : m < 4
          · have ho := hone m hlt2
            rw [HP.out] at ho
            have hi2 : (m : Int) < 4 := by omega
            have hi20 : (0 : Int) ≤ (m : Int) := by omega
            clear hone
            by_cases e : m = k
            · have hne2 : ((m : Int) != (k : Int)) = false := by simp; omega
              have HK := wIn_skip xss k ps m e
              rw [HK] at Z
              clear e HK
              generalize pt xss k m = y at *
              go_wp2
              go_roundw
              case rel => exact ⟨m + 1, by omega, by go_num, Y, Z, B⟩
              case measure => simp [intOf]; omega
            · have hne2 : ((m : Int) != (k : Int)) = true := by simp; omega
              have HK : Hid ((wIn xss k ps m).set m (pt xss k m) = wIn xss k ps (m + 1)) := wIn_set xss k ps m hlt2 e
              have c1 := Z.one m (by rw [wIn_length]; exact hlt2)
              have f1 := Z.at.2 m
              have Z' := Z.set1 m (pt xss k m)
              rw [HK.out] at Z'
              clear e Z HK
              generalize pt xss k m = y at *
              go_wp2
              go_roundw
              case rel => exact ⟨m + 1, by omega, by go_num, Y.setOther _ _ (by simp), Z', B.setCell (by simp; omega) _⟩
              case measure => simp [intOf]; omega
          · obtain rfl : m = 4 := by omega
            rw [← HE.out] at Z
            go_wp2
            go_roundw
            case rel => exact ⟨k + 1, by omega, by go_num, Y, Z, B⟩
            case measure => simp [intOf]; omega
    · obtain rfl : k = 4 := by omega
      obtain ⟨p0, p1, p2, p3, hp⟩ := four _ (wholeL_length xss but 4)
      rw [hp] at Z
      have HP : Hid (wholeL xss but 4 = [p0, p1, p2, p3]) := hp
      clear hp
      have ya := Y.at.1
      have yb := Y.at.2
      have za := Z.at.1
      simp only [cells1, List.map] at ya za
      have OO : ∀ W, Off [w.heap.size + 1] wr W → (Ending.returned (.agg #[.int .i64 p0, .int .i64 p1, .int .i64 p2, .int .i64 p3]) = .returned (ag (wholeL xss but 4)) ∧ Below w.heap.size w W) := fun W OO => ⟨by rw [HP.out]; rfl, B.trans (OO.toBelow B.size (by simp))⟩
      go_wp2
      exact bodyPost_ret (v := .agg #[.int .i64 p0, .int .i64 p1, .int .i64 p2, .int .i64 p3]) (by simp [results, Tryz.results44, go_sem, ya]) rfl (OO _ (((((Off.refl _ _).setCell _ _ (by simp)).setCell _ _ (by simp)).setCell _ _ (by simp)).setCell _ _ (by simp)))
end Go.Proofs.YtepobckhfodngabGreat
