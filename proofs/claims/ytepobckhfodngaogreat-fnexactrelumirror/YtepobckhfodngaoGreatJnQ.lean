/-
  Contracts of chapter 4: quarrels, the two that are told apart, and who is trusted: in the program and in its model.
-/
import Derived.Test.YtepobckhfodngaoGreatBut
import Derived.Test.YtepobckhfodngaoGreatRing
import Derived.BigQuiet
import Derived.Deep.RegionHeld3
import Derived.Laws.StructEq
namespace Go.Proofs.YtepobckhfodngaoGreat
open Go.ChangeShapes Go.WideShapes Go.ChangeAt Go.RowKit
set_option linter.unusedVariables false


def Three (a b c : Int) : Prop := (0 ≤ a ∧ a ≤ 3) ∧ (0 ≤ b ∧ b ≤ 3) ∧ (0 ≤ c ∧ c ≤ 3) ∧ a ≠ b ∧ a ≠ c ∧ b ≠ c
instance (a b c : Int) : Decidable (Three a b c) := by unfold Three; infer_instance
def mn (a b : Int) : Int := if a < b then a else b
def mx (a b : Int) : Int := if b < a then a else b
/-- the two that are told apart -/
def qA (z : MQuarrel) : Int := if z.xHeard = z.xTold ∧ z.xOther = z.xVowed ∧ z.xTold ≠ z.xVowed then z.xFrom else z.xTo
def qB (z : MQuarrel) : Int := if z.xHeard = z.xTold ∧ (z.xOther ≠ z.xVowed ∨ z.xTold ≠ z.xVowed) then z.xCheck else z.xFrom
def judgeR (z : MQuarrel) : MPairResult := if z.xSome = true then (if Three z.xFrom z.xCheck z.xTo then ⟨0, mn (qA z) (qB z), mx (qA z) (qB z)⟩ else ⟨3, 0, 0⟩) else ⟨4, 0, 0⟩
/-- the lowest party that is none of two -/
def low (a b : Int) : Int := if a ≠ 0 ∧ b ≠ 0 then 0 else if a ≠ 1 ∧ b ≠ 1 then 1 else 2
def trustR (z : MQuarrel) : MIntResult := if (judgeR z).xCode = 0 then ⟨0, low (mn (qA z) (qB z)) (mx (qA z) (qB z))⟩ else ⟨(judgeR z).xCode, 0⟩
theorem low_at {a b : Int} {k : Nat} (h : ∀ j : Nat, j < k → ((j : Int) = a ∨ (j : Int) = b)) (ha : (k : Int) ≠ a) (hb : (k : Int) ≠ b) : low a b = k := by
  have hk : k ≤ 2 := by
    rcases Nat.lt_or_ge 2 k with hk | hk
    · have h0 := h 0 (by omega); have h1 := h 1 (by omega); have h2 := h 2 (by omega); omega
    · exact hk
  unfold low
  obtain rfl | rfl | rfl : k = 0 ∨ k = 1 ∨ k = 2 := by omega
  · rw [if_pos (by omega)]; rfl
  · have h0 := h 0 (by omega)
    rw [if_neg (by omega), if_pos (by omega)]; rfl
  · have h0 := h 0 (by omega); have h1 := h 1 (by omega)
    rw [if_neg (by omega), if_neg (by omega)]; rfl
theorem low_lt {a b : Int} {k : Nat} (h : ∀ j : Nat, j < k → ((j : Int) = a ∨ (j : Int) = b)) : k ≤ 2 := by
  rcases Nat.lt_or_ge 2 k with hk | hk
  · have h0 := h 0 (by omega); have h1 := h 1 (by omega); have h2 := h 2 (by omega); omega
  · exact hk
theorem impl_pairOf (a b : Int) (w : World) : Calls Tryz.prog 159 #[.int .i64 a, .int .i64 b] w fun e w' => e = .returned (.agg #[.int .i64 0, .int .i64 (mn a b), .int .i64 (mx a b)]) ∧ Below w.heap.size w w' := by
  rcases Int.lt_trichotomy a b with h | h | h
  · rw [show mn a b = a from if_pos h, show mx a b = b from if_neg (by omega)]
    have h1 : a ≤ b := by omega
    go_enter Tryz.func159, Tryz.ntmps159
    go_wp2
    exact bodyPost_ret (v := .agg #[.int .i64 0, .int .i64 a, .int .i64 b]) (by simp [results, Tryz.results159, go_sem]) rfl ⟨rfl, (by repeat (first | exact Below.refl _ _ | refine Below.drew ?_ | refine below_drewN ?_ _ | refine Below.setCell ?_ (by first | omega | (simp; done) | (simp; omega)) _ | refine Below.alloc ?_ (by first | omega | (simp; done) | (simp; omega)) _))⟩
  · subst h
    rw [show mn a a = a from if_neg (by omega), show mx a a = a from if_neg (by omega)]
    go_enter Tryz.func159, Tryz.ntmps159
    go_wp2
    exact bodyPost_ret (v := .agg #[.int .i64 0, .int .i64 a, .int .i64 a]) (by simp [results, Tryz.results159, go_sem]) rfl ⟨rfl, (by repeat (first | exact Below.refl _ _ | refine Below.drew ?_ | refine below_drewN ?_ _ | refine Below.setCell ?_ (by first | omega | (simp; done) | (simp; omega)) _ | refine Below.alloc ?_ (by first | omega | (simp; done) | (simp; omega)) _))⟩
  · rw [show mn a b = b from if_neg (by omega), show mx a b = a from if_pos h]
    have h1 : b ≤ a := by omega
    have h2 : ¬ a ≤ b := by omega
    go_enter Tryz.func159, Tryz.ntmps159
    go_wp2
    exact bodyPost_ret (v := .agg #[.int .i64 0, .int .i64 b, .int .i64 a]) (by simp [results, Tryz.results159, go_sem]) rfl ⟨rfl, (by repeat (first | exact Below.refl _ _ | refine Below.drew ?_ | refine below_drewN ?_ _ | refine Below.setCell ?_ (by first | omega | (simp; done) | (simp; omega)) _ | refine Below.alloc ?_ (by first | omega | (simp; done) | (simp; omega)) _))⟩

end Go.Proofs.YtepobckhfodngaoGreat
