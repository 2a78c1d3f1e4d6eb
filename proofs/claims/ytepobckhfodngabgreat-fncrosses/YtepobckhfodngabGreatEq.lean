/-
  Contracts of the laws' own helpers on lists of whole numbers: comparing, marking, holding, copying.
-/
import Derived.Test.YtepobckhfodngabGreatMem
import Derived.Deep.QuietTactic
import Derived.BigQuiet
import Derived.WalkSmall
import Derived.WalkSpells
namespace Go.Proofs.YtepobckhfodngabGreat
open Go.ChangeShapes Go.WideShapes Go.ChangeAt Go.RowKit
set_option linter.unusedVariables false


/-- k, k + 1, .. : as many as there are -/
def marks (k : Int) : Nat → List Int
  | 0 => []
  | n + 1 => k :: marks (k + 1) n
theorem marks_length (k : Int) (n : Nat) : (marks k n).length = n := by
  induction n generalizing k with
  | zero => rfl
  | succ n ih => simp [marks, ih]
theorem marks_getD (k : Int) (n i : Nat) (h : i < n) : (marks k n).getD i 0 = k + i := by
  induction n generalizing k i with
  | zero => omega
  | succ n ih =>
    cases i with
    | zero => simp [marks]
    | succ i => simp only [marks, List.getD_cons_succ]; rw [ih (k + 1) i (by omega)]; omega
theorem marks_set (k : Int) (n i : Nat) (xs : List Int) (h : i < n) (hx : xs.length = n) : ((marks k i ++ xs.drop i).set i (k + i)) = marks k (i + 1) ++ xs.drop (i + 1) := by
  apply List.ext_getElem?
  intro j
  have e1 : ∀ (m : Nat), (marks k m).length = m := marks_length k
  rcases Nat.lt_trichotomy j i with hj | hj | hj
  · rw [List.getElem?_set_ne (by omega), List.getElem?_append_left (by rw [e1]; omega), List.getElem?_append_left (by rw [e1]; omega)]
    have a1 := marks_getD k i j hj
    have a2 := marks_getD k (i + 1) j (by omega)
    rw [List.getD_eq_getElem?_getD] at a1 a2
    rw [List.getElem?_eq_getElem (by rw [e1]; omega)] at a1 a2 ⊢
    rw [List.getElem?_eq_getElem (by rw [e1]; omega)]
    simp at a1 a2
    rw [a1, a2]
  · subst hj
    rw [List.getElem?_set_self (by simp [e1]; omega), List.getElem?_append_left (by rw [e1]; omega)]
    have a2 := marks_getD k (j + 1) j (by omega)
    rw [List.getD_eq_getElem?_getD, List.getElem?_eq_getElem (by rw [e1]; omega)] at a2
    rw [List.getElem?_eq_getElem (by rw [e1]; omega)]
    simp at a2
    rw [a2]
  · rw [List.getElem?_set_ne (by omega), List.getElem?_append_right (by rw [e1]; omega), List.getElem?_append_right (by rw [e1]; omega), e1, e1]
    simp only [List.getElem?_drop]
    congr 1
    omega



theorem Tryz.infoI : (Tryz.prog.info? 2).map (fun i => (i.zero, i.size, i.bytes)) = some (some (.int .i64 0), 1, 8) := by kernel_rfl
theorem take_zero_set (xs : List Int) (k n : Nat) (h : k < n) (hx : xs.length = n) : (((xs.take k ++ List.replicate (n - k) 0).map (Value.int .i64)).set k (.int .i64 (xs.getD k 0))) = (xs.take (k + 1) ++ List.replicate (n - (k + 1)) 0).map (Value.int .i64) := by
  have hk : k < xs.length := by omega
  have hg : xs.getD k 0 = xs[k] := by simp [hk]
  have : (xs.take k).length = k := by simp; omega
  rw [← List.map_set, List.set_append_right _ _ (by omega), List.take_succ_eq_append_getElem hk, hg, this, show n - k = (n - (k + 1)) + 1 by omega]
  simp only [Nat.sub_self, List.replicate_succ, List.set_cons_zero, List.append_assoc, List.singleton_append]
end Go.Proofs.YtepobckhfodngabGreat
