/-
  Rows of products, plain: sixteen numbers, and what each party multiplies alone. Views as sixteen cells.
-/
import Derived.Test.YtepobckhfodngaoGreatMirL
import Derived.Test.YtepobckhfodngaoGreatWhole
namespace Go.Proofs.YtepobckhfodngaoGreat
open Go.ChangeShapes Go.WideShapes Go.ChangeAt Go.RowKit
set_option linter.unusedVariables false

/-- the number at party p's part k is y more -/
def putF (q : Int) (fs : List Int) (p k : Nat) (y : Int) : List Int := fs.set (p * 4 + k) ((fs.getD (p * 4 + k) 0 + y) % q)
theorem putF_len (q : Int) (fs : List Int) (p k : Nat) (y : Int) : (putF q fs p k y).length = fs.length := by unfold putF; rw [List.length_set]
theorem getD_setP {xs : List Int} {j k : Nat} {y : Int} {P : Int → Prop} (h : P (xs.getD k 0)) (hy : P y) : P ((xs.set j y).getD k 0) := by
  rcases Nat.decEq j k with e | e
  · rw [List.getD_eq_getElem?_getD, List.getElem?_set_ne e, ← List.getD_eq_getElem?_getD]; exact h
  · subst e
    rcases Nat.lt_or_ge j xs.length with hj | hj
    · rw [List.getD_eq_getElem?_getD, List.getElem?_set_self hj]; exact hy
    · rw [List.set_eq_of_length_le hj]; exact h
/-- sixteen numbers, each an element -/
def Ok16 (q : Int) (fs : List Int) : Prop := fs.length = 16 ∧ ∀ j, 0 ≤ fs.getD j 0 ∧ fs.getD j 0 < q
theorem Ok16.put {q : Int} (hq : q = 2 ∨ q = 256) {fs : List Int} (h : Ok16 q fs) (p k : Nat) (y : Int) : Ok16 q (putF q fs p k y) :=
  ⟨by rw [putF_len]; exact h.1, fun j => getD_setP (P := fun z => 0 ≤ z ∧ z < q) (h.2 j) ⟨Int.emod_nonneg _ (by omega), Int.emod_lt_of_pos _ (by omega)⟩⟩
/-- what a party's own products of a part are, over the first terms -/
def sqN (xss yss : List (List (List Int))) (p k : Nat) : Nat → Int
  | 0 => 0
  | n + 1 => sqN xss yss p k n + pt (xss.getD n []) p k * pt (yss.getD n []) p k
def sqF (q : Int) (xss yss : List (List (List Int))) (n : Nat) : List Int := (List.range 16).map fun (j : Nat) => sqN xss yss (j / 4) (j % 4) n % q
theorem sqF_ok {q : Int} (hq : q = 2 ∨ q = 256) (xss yss : List (List (List Int))) (n : Nat) : Ok16 q (sqF q xss yss n) := by
  refine ⟨by simp [sqF], fun j => ?_⟩
  by_cases hj : j < 16
  · have : (sqF q xss yss n).getD j 0 = sqN xss yss (j / 4) (j % 4) n % q := by simp [sqF, hj]
    rw [this]
    exact ⟨Int.emod_nonneg _ (by omega), Int.emod_lt_of_pos _ (by omega)⟩
  · have : (sqF q xss yss n).getD j 0 = 0 := by simp [sqF, hj]
    rw [this]
    omega
/-- what a party's views tell at two places together, over the first terms -/
def crN (xss yss : List (List (List Int))) (p i j : Nat) : Nat → Int
  | 0 => 0
  | n + 1 => crN xss yss p i j n + (pt (xss.getD n []) p i * pt (yss.getD n []) p j + pt (xss.getD n []) p j * pt (yss.getD n []) p i)
/-- views again -/
def unflat (fs : List Int) : List (List Int) := [[fs.getD 0 0, fs.getD 1 0, fs.getD 2 0, fs.getD 3 0], [fs.getD 4 0, fs.getD 5 0, fs.getD 6 0, fs.getD 7 0], [fs.getD 8 0, fs.getD 9 0, fs.getD 10 0, fs.getD 11 0], [fs.getD 12 0, fs.getD 13 0, fs.getD 14 0, fs.getD 15 0]]
/-- four of sixteen -/
def row4 (fs : List Int) (k : Nat) : List Int := [fs.getD (k * 4) 0, fs.getD (k * 4 + 1) 0, fs.getD (k * 4 + 2) 0, fs.getD (k * 4 + 3) 0]
theorem row4_getD (fs : List Int) (k m : Nat) (hm : m < 4) : (row4 fs k).getD m 0 = fs.getD (k * 4 + m) 0 := by
  obtain rfl | rfl | rfl | rfl : m = 0 ∨ m = 1 ∨ m = 2 ∨ m = 3 := by omega
  all_goals rfl
theorem lit16 {fs : List Int} (h : fs.length = 16) : ∃ a0 a1 a2 a3 b0 b1 b2 b3 c0 c1 c2 c3 d0 d1 d2 d3, fs = [a0, a1, a2, a3, b0, b1, b2, b3, c0, c1, c2, c3, d0, d1, d2, d3] := by
  match fs, h with
  | [a0, a1, a2, a3, b0, b1, b2, b3, c0, c1, c2, c3, d0, d1, d2, d3], _ => exact ⟨_, _, _, _, _, _, _, _, _, _, _, _, _, _, _, _, rfl⟩
theorem flat_getD {xss : List (List Int)} (h : Sq xss) (p k : Nat) (hp : p < 4) (hk : k < 4) : xss.flatten.getD (p * 4 + k) 0 = pt xss p k := by
  obtain ⟨a0, a1, a2, a3, b0, b1, b2, b3, c0, c1, c2, c3, d0, d1, d2, d3, rfl⟩ := h.lit
  obtain rfl | rfl | rfl | rfl : p = 0 ∨ p = 1 ∨ p = 2 ∨ p = 3 := by omega
  all_goals
    obtain rfl | rfl | rfl | rfl : k = 0 ∨ k = 1 ∨ k = 2 ∨ k = 3 := by omega
    all_goals rfl
theorem flat_len {xss : List (List Int)} (h : Sq xss) : xss.flatten.length = 16 := by
  obtain ⟨a0, a1, a2, a3, b0, b1, b2, b3, c0, c1, c2, c3, d0, d1, d2, d3, rfl⟩ := h.lit
  rfl
theorem unflat_flat {fs : List Int} (h : fs.length = 16) : (unflat fs).flatten = fs := by
  obtain ⟨a0, a1, a2, a3, b0, b1, b2, b3, c0, c1, c2, c3, d0, d1, d2, d3, rfl⟩ := lit16 h
  rfl
theorem unflat_sq (fs : List Int) : Sq (unflat fs) := Sq.of _ _ _ _ _ _ _ _ _ _ _ _ _ _ _ _
theorem pt_unflat (fs : List Int) (p k : Nat) (hp : p < 4) (hk : k < 4) : pt (unflat fs) p k = fs.getD (p * 4 + k) 0 := by
  obtain rfl | rfl | rfl | rfl : p = 0 ∨ p = 1 ∨ p = 2 ∨ p = 3 := by omega
  all_goals
    obtain rfl | rfl | rfl | rfl : k = 0 ∨ k = 1 ∨ k = 2 ∨ k = 3 := by omega
    all_goals rfl
theorem run_rowF {fs : List Int} (h : fs.length = 16) (k : Nat) (hk : k < 4) (w : World) : (Instr.index 85 (.agg (cells1 fs)) (.int .i64 k)).run Tryz.prog w = .ok (.agg (cells1 (row4 fs k))) w := by
  obtain ⟨a0, a1, a2, a3, b0, b1, b2, b3, c0, c1, c2, c3, d0, d1, d2, d3, rfl⟩ := lit16 h
  refine run_row a0 a1 a2 a3 b0 b1 b2 b3 c0 c1 c2 c3 d0 d1 d2 d3 k hk _ _ _ _ ?_ w
  obtain rfl | rfl | rfl | rfl : k = 0 ∨ k = 1 ∨ k = 2 ∨ k = 3 := by omega
  all_goals rfl
theorem run_oneF {r : List Int} (h : r.length = 4) (k : Nat) (hk : k < 4) (w : World) : (Instr.index 83 (.agg (cells1 r)) (.int .i64 k)).run Tryz.prog w = .ok (.int .i64 (r.getD k 0)) w := by
  match r, h with
  | [a, b, c, d], _ => exact run_one a b c d k hk w
theorem cells1_size (fs : List Int) : (cells1 fs).size = fs.length := by simp [cells1]
theorem cells1_one (fs : List Int) : (cells1 fs).all (·.oneCell') = true := all_oneCell_toArray (fun v hv => by obtain ⟨n, _, rfl⟩ := List.mem_map.1 hv; rfl)
theorem cells1_rw (fs : List Int) {n : Nat} (h : fs.length = n) : Rw n (cells1 fs) := ⟨by rw [cells1_size, h], cells1_one fs⟩
end Go.Proofs.YtepobckhfodngaoGreat
