/-
  Contracts of chapter 3 of the program: what all but one know.
-/
import Derived.Test.YtepobckhfodngaoGreatMirK
namespace Go.Proofs.YtepobckhfodngaoGreat
open Go.ChangeShapes Go.WideShapes Go.ChangeAt Go.RowKit
set_option linter.unusedVariables false

def cells1 (xs : List Int) : Array Value := (xs.map (Value.int .i64)).toArray
theorem Blk.one {w : World} {b : Nat} {T : TypeId} {xs : List Int} (h : Blk w b T (cells1 xs)) (m : Nat) (hm : m < xs.length) : w.cell? ⟨b, m, none⟩ = some (.int .i64 (xs.getD m 0)) := by
  rw [h.at.1 m]
  simp [cells1, hm]
theorem Blk.set1 {w : World} {b : Nat} {T : TypeId} {xs : List Int} (h : Blk w b T (cells1 xs)) (m : Nat) (y : Int) : Blk (w.setCell ⟨b, m, none⟩ (.int .i64 y)) b T (cells1 (xs.set m y)) :=
  Blk.of_eq (h.set m _) (by simp [cells1, List.map_set])
theorem run_one (a b c d : Int) (k : Nat) (hk : k < 4) (w : World) : (Instr.index 83 (.agg #[.int .i64 a, .int .i64 b, .int .i64 c, .int .i64 d]) (.int .i64 k)).run Tryz.prog w = .ok (.int .i64 ([a, b, c, d].getD k 0)) w := by
  obtain rfl | rfl | rfl | rfl : k = 0 ∨ k = 1 ∨ k = 2 ∨ k = 3 := by omega
  · show (Instr.index 83 (.agg #[.int .i64 a, .int .i64 b, .int .i64 c, .int .i64 d]) (.int .i64 0)).run Tryz.prog w = .ok (.int .i64 a) w
    kernel_rfl
  · show (Instr.index 83 (.agg #[.int .i64 a, .int .i64 b, .int .i64 c, .int .i64 d]) (.int .i64 1)).run Tryz.prog w = .ok (.int .i64 b) w
    kernel_rfl
  · show (Instr.index 83 (.agg #[.int .i64 a, .int .i64 b, .int .i64 c, .int .i64 d]) (.int .i64 2)).run Tryz.prog w = .ok (.int .i64 c) w
    kernel_rfl
  · show (Instr.index 83 (.agg #[.int .i64 a, .int .i64 b, .int .i64 c, .int .i64 d]) (.int .i64 3)).run Tryz.prog w = .ok (.int .i64 d) w
    kernel_rfl
/-- the parts that are put together, m parts of party i's view behind what there was -/
def wIn (xss : List (List Int)) (i : Nat) (ps : List Int) (m : Nat) : List Int := (List.range 4).map fun (j : Nat) => if j = i ∨ m ≤ j then ps.getD j 0 else pt xss i j
def wStep (xss : List (List Int)) (but : Int) (i : Nat) (ps : List Int) : List Int := if (i : Int) = but then ps else wIn xss i ps 4
def wholeL (xss : List (List Int)) (but : Int) : Nat → List Int
  | 0 => [0, 0, 0, 0]
  | i + 1 => wStep xss but i (wholeL xss but i)
theorem wIn_length (xss : List (List Int)) (i : Nat) (ps : List Int) (m : Nat) : (wIn xss i ps m).length = 4 := by simp [wIn]
theorem wholeL_length (xss : List (List Int)) (but : Int) : ∀ i, (wholeL xss but i).length = 4
  | 0 => rfl
  | i + 1 => by
    have := wholeL_length xss but i
    unfold wholeL wStep
    split
    · exact this
    · exact wIn_length ..
theorem wIn_zero (xss : List (List Int)) (i : Nat) (ps : List Int) (h : ps.length = 4) : wIn xss i ps 0 = ps := by
  obtain ⟨a, b, c, d, rfl⟩ := four ps h
  simp [wIn, List.range_succ]
theorem wIn_getD (xss : List (List Int)) (i : Nat) (ps : List Int) (m j : Nat) (hj : j < 4) : (wIn xss i ps m).getD j 0 = if j = i ∨ m ≤ j then ps.getD j 0 else pt xss i j := by
  simp [wIn, hj]
theorem ext4 {xs ys : List Int} (h : xs.length = 4) (k : ys.length = 4) (e : ∀ j, j < 4 → xs.getD j 0 = ys.getD j 0) : xs = ys := by
  obtain ⟨a, b, c, d, rfl⟩ := four xs h
  obtain ⟨a', b', c', d', rfl⟩ := four ys k
  have e0 := e 0 (by omega)
  have e1 := e 1 (by omega)
  have e2 := e 2 (by omega)
  have e3 := e 3 (by omega)
  simp at e0 e1 e2 e3
  rw [e0, e1, e2, e3]
theorem getD_set4 (xs : List Int) (h : xs.length = 4) (m : Nat) (y : Int) (j : Nat) (hj : j < 4) : (xs.set m y).getD j 0 = if m = j then y else xs.getD j 0 := by
  split
  · rename_i e
    subst e
    have : m < xs.length := by omega
    simp [this]
  · rename_i e
    simp [List.getD_eq_getElem?_getD, List.getElem?_set_ne e]
theorem wIn_set (xss : List (List Int)) (i : Nat) (ps : List Int) (m : Nat) (hm : m < 4) (hne : m ≠ i) : (wIn xss i ps m).set m (pt xss i m) = wIn xss i ps (m + 1) := by
  refine ext4 (by simp [wIn_length]) (wIn_length ..) fun j hj => ?_
  rw [getD_set4 _ (wIn_length ..) _ _ _ hj, wIn_getD _ _ _ _ _ hj, wIn_getD _ _ _ _ _ hj]
  by_cases e : m = j
  · subst e
    rw [if_pos rfl, if_neg (by omega)]
  · rw [if_neg e]
    by_cases e2 : j = i ∨ m ≤ j
    · rw [if_pos e2, if_pos (by omega)]
    · rw [if_neg e2, if_neg (by omega)]
theorem wIn_skip (xss : List (List Int)) (i : Nat) (ps : List Int) (m : Nat) (hne : m = i) : wIn xss i ps m = wIn xss i ps (m + 1) := by
  refine ext4 (wIn_length ..) (wIn_length ..) fun j hj => ?_
  rw [wIn_getD _ _ _ _ _ hj, wIn_getD _ _ _ _ _ hj]
  by_cases e2 : j = i ∨ m ≤ j
  · rw [if_pos e2, if_pos (by omega)]
  · rw [if_neg e2, if_neg (by omega)]
end Go.Proofs.YtepobckhfodngaoGreat
