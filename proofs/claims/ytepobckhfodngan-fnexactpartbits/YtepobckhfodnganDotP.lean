/-
  Rows of products in the program: a number put to a part, and what each party multiplies alone.
-/
import Derived.Test.YtepobckhfodnganDotM0
import Derived.Test.YtepobckhfodnganMirI
import Derived.Deep.RegionWith
import Derived.Deep.RegionHeld3
namespace Go.Proofs.Ytepobckhfodngan
open Go.ChangeShapes Go.WideShapes Go.ChangeAt Go.RowKit
set_option linter.unusedVariables false

/-- n views, one behind the other, in block g -/
def RdVs (w : World) (g n : Nat) (vss : List (List (List Int))) : Prop := g < w.heap.size ∧ ∀ t, t < n → Sq (vss.getD t []) ∧ w.rangeAt g (t * 16) (cells1 (vss.getD t []).flatten).toList
theorem RdVs.below {w w' : World} {g n : Nat} {vss : List (List (List Int))} (h : RdVs w g n vss) (hb : Below w.heap.size w w') : RdVs w' g n vss :=
  ⟨Nat.lt_of_lt_of_le h.1 hb.size, fun t ht => ⟨(h.2 t ht).1, fun j v hv => (hb.cell (p := ⟨g, t * 16 + j, none⟩) h.1).trans ((h.2 t ht).2 j v hv)⟩⟩
theorem RdVs.off {w w' : World} {g n : Nat} {vss : List (List (List Int))} {cs : List Nat} (h : RdVs w g n vss) (hb : Off cs w w') (k : g ∉ cs) : RdVs w' g n vss :=
  ⟨Nat.lt_of_lt_of_le h.1 hb.size, fun t ht => ⟨(h.2 t ht).1, fun j v hv => ((hb.at g h.1 k).1 _).trans ((h.2 t ht).2 j v hv)⟩⟩
theorem RdVs.one {w : World} {g n : Nat} {vss : List (List (List Int))} (h : RdVs w g n vss) (t p k : Nat) (ht : t < n) (hp : p < 4) (hk : k < 4) : w.cell? ⟨g, t * 16 + p * 4 + k, none⟩ = some (.int .i64 (pt (vss.getD t []) p k)) := by
  have h1 := (h.2 t ht).2 (p * 4 + k) (.int .i64 (pt (vss.getD t []) p k)) (by
    have hl := flat_len (h.2 t ht).1
    have hg := flat_getD (h.2 t ht).1 p k hp hk
    have hj : p * 4 + k < (vss.getD t []).flatten.length := by omega
    generalize (vss.getD t []).flatten = fx at *
    rw [List.getD_eq_getElem?_getD, List.getElem?_eq_getElem hj] at hg
    simp only [Option.getD_some] at hg
    simp [cells1, hg, hj])
  rw [← Nat.add_assoc] at h1
  exact h1
/-- all are elements -/
def BdT (q : Int) (vss : List (List (List Int))) : Prop := ∀ t i j, 0 ≤ pt (vss.getD t []) i j ∧ pt (vss.getD t []) i j < q

end Go.Proofs.Ytepobckhfodngan
