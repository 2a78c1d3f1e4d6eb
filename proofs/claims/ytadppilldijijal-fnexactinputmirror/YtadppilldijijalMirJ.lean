/-
  Contracts of chapter 3 of the program: all four views in one array.
-/
import Derived.Test.YtadppilldijijalMirI
namespace Go.Proofs.Ytadppilldijijal
open Go.ChangeShapes Go.WideShapes Go.ChangeAt Go.RowKit
set_option linter.unusedVariables false

/-- four rows of four -/
def Sq (xss : List (List Int)) : Prop := xss.length = 4 ∧ ∀ i, i < 4 → (xss.getD i []).length = 4
theorem Sq.lit {xss : List (List Int)} (h : Sq xss) : ∃ a0 a1 a2 a3 b0 b1 b2 b3 c0 c1 c2 c3 d0 d1 d2 d3, xss = [[a0, a1, a2, a3], [b0, b1, b2, b3], [c0, c1, c2, c3], [d0, d1, d2, d3]] := by
  obtain ⟨h4, hr⟩ := h
  obtain ⟨a, b, c, d, rfl⟩ := four xss h4
  obtain ⟨a0, a1, a2, a3, rfl⟩ := four a (hr 0 (by omega))
  obtain ⟨b0, b1, b2, b3, rfl⟩ := four b (hr 1 (by omega))
  obtain ⟨c0, c1, c2, c3, rfl⟩ := four c (hr 2 (by omega))
  obtain ⟨d0, d1, d2, d3, rfl⟩ := four d (hr 3 (by omega))
  exact ⟨_, _, _, _, _, _, _, _, _, _, _, _, _, _, _, _, rfl⟩
theorem Sq.of (a0 a1 a2 a3 b0 b1 b2 b3 c0 c1 c2 c3 d0 d1 d2 d3 : Int) : Sq [[a0, a1, a2, a3], [b0, b1, b2, b3], [c0, c1, c2, c3], [d0, d1, d2, d3]] :=
  ⟨rfl, fun i hi => by obtain rfl | rfl | rfl | rfl : i = 0 ∨ i = 1 ∨ i = 2 ∨ i = 3 := by omega
                       all_goals rfl⟩
theorem Sq.row {xss : List (List Int)} (h : Sq xss) (i : Nat) (hi : i < 4) : ∃ a b c d, xss.getD i [] = [a, b, c, d] := four _ (h.2 i hi)
/-- four lists in one array -/
def ag2 (xss : List (List Int)) : Value := ag xss.flatten
def zero4 : List (List Int) := [[0, 0, 0, 0], [0, 0, 0, 0], [0, 0, 0, 0], [0, 0, 0, 0]]
def cells2 (xss : List (List Int)) : Array Value := (xss.flatten.map (Value.int .i64)).toArray
theorem cells2_lit (a0 a1 a2 a3 b0 b1 b2 b3 c0 c1 c2 c3 d0 d1 d2 d3 : Int) : cells2 [[a0, a1, a2, a3], [b0, b1, b2, b3], [c0, c1, c2, c3], [d0, d1, d2, d3]] = #[.int .i64 a0, .int .i64 a1, .int .i64 a2, .int .i64 a3, .int .i64 b0, .int .i64 b1, .int .i64 b2, .int .i64 b3, .int .i64 c0, .int .i64 c1, .int .i64 c2, .int .i64 c3, .int .i64 d0, .int .i64 d1, .int .i64 d2, .int .i64 d3] := rfl
theorem Sq.ext {xss yss : List (List Int)} (h : Sq xss) (k : Sq yss) (e : ∀ j, j < 4 → xss.getD j [] = yss.getD j []) : xss = yss := by
  obtain ⟨a, b, c, d, rfl⟩ := four xss h.1
  obtain ⟨a', b', c', d', rfl⟩ := four yss k.1
  have e0 := e 0 (by omega)
  have e1 := e 1 (by omega)
  have e2 := e 2 (by omega)
  have e3 := e 3 (by omega)
  simp at e0 e1 e2 e3
  rw [e0, e1, e2, e3]
theorem Sq.set {xss : List (List Int)} (h : Sq xss) (k : Nat) (ys : List Int) (hy : ys.length = 4) : Sq (xss.set k ys) := by
  refine ⟨by simp [h.1], fun i hi => ?_⟩
  by_cases e : k = i
  · subst e
    have : k < xss.length := by rw [h.1]; exact hi
    simp [this, hy]
  · have := h.2 i hi
    simpa [List.getD_eq_getElem?_getD, List.getElem?_set_ne e] using this
end Go.Proofs.Ytadppilldijijal
