/-
  Contracts of chapter 5: who the others are, in the program and in its model.
-/
import Derived.Test.YtepobckhfodnganJnQ
import Derived.Test.YtepobckhfodnganApp
namespace Go.Proofs.Ytepobckhfodngan
open Go.ChangeShapes Go.WideShapes Go.ChangeAt Go.RowKit
set_option linter.unusedVariables false

def rest (i j : Int) : Nat → List Int
  | 0 => []
  | n + 1 => rest i j n ++ (if (n : Int) ≠ i ∧ (n : Int) ≠ j then [(n : Int)] else [])
theorem rest_in {i j : Int} {n : Nat} (h : (n : Int) ≠ i ∧ (n : Int) ≠ j) : rest i j (n + 1) = rest i j n ++ [(n : Int)] := by rw [rest, if_pos h]
theorem rest_out {i j : Int} {n : Nat} (h : ¬ ((n : Int) ≠ i ∧ (n : Int) ≠ j)) : rest i j (n + 1) = rest i j n := by rw [rest, if_neg h, List.append_nil]
theorem rest_len (i j : Int) : ∀ n, (rest i j n).length ≤ n
  | 0 => Nat.le_refl _
  | n + 1 => by rw [rest]; have := rest_len i j n; split <;> simp <;> omega
def othF (i j : Int) : Int := (rest i j 4).getD 0 0
def othS (i j : Int) : Int := (rest i j 4).getD 1 0
def Two (i j : Int) : Prop := (0 ≤ i ∧ i ≤ 3) ∧ (0 ≤ j ∧ j ≤ 3) ∧ i ≠ j
instance (i j : Int) : Decidable (Two i j) := by unfold Two; infer_instance
theorem Two.cases {i j : Int} (h : Two i j) {P : Int → Int → Prop} (p : ∀ a b : Fin 4, a ≠ b → P a.val b.val) : P i j := by
  obtain ⟨⟨h0, h1⟩, ⟨h2, h3⟩, h4⟩ := h
  have := p ⟨i.toNat, by omega⟩ ⟨j.toNat, by omega⟩ (fun e => h4 (by have := congrArg Fin.val e; simp at this; omega))
  simpa [Int.toNat_of_nonneg h0, Int.toNat_of_nonneg h2] using this
theorem rest_two {i j : Int} (h : Two i j) : rest i j 4 = [othF i j, othS i j] := h.cases (P := fun i j => rest i j 4 = [othF i j, othS i j]) (by decide)
theorem oth_ok {i j : Int} (h : Two i j) : (0 ≤ othF i j ∧ othF i j < othS i j ∧ othS i j ≤ 3) ∧ othF i j ≠ i ∧ othF i j ≠ j ∧ othS i j ≠ i ∧ othS i j ≠ j := h.cases (P := fun i j => (0 ≤ othF i j ∧ othF i j < othS i j ∧ othS i j ≤ 3) ∧ othF i j ≠ i ∧ othF i j ≠ j ∧ othS i j ≠ i ∧ othS i j ≠ j) (by decide)
theorem oth_mid {i j : Int} (h : Two i j) : ∀ k : Nat, k < 4 → ((k : Int) < othF i j ∨ (othF i j < k ∧ (k : Int) < othS i j)) → ((k : Int) = i ∨ (k : Int) = j) := h.cases (P := fun i j => ∀ k : Nat, k < 4 → ((k : Int) < othF i j ∨ (othF i j < k ∧ (k : Int) < othS i j)) → ((k : Int) = i ∨ (k : Int) = j)) (by decide)
def othersR (i j : Int) : MPairResult := if Two i j then ⟨0, othF i j, othS i j⟩ else ⟨3, 0, 0⟩
theorem othersR_yes {i j : Int} (h : Two i j) : othersR i j = ⟨0, othF i j, othS i j⟩ := if_pos h
theorem othersR_no {i j : Int} (h : ¬ Two i j) : othersR i j = ⟨3, 0, 0⟩ := if_neg h
end Go.Proofs.Ytepobckhfodngan
