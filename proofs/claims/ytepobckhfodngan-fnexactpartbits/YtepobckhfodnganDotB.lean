/-
  Contracts of chapter 5: what two parts make together, in the program and in its model.
-/
import Derived.Test.YtepobckhfodnganV5
import Derived.Test.YtepobckhfodnganDotA
import Derived.Test.YtepobckhfodnganMirI
import Derived.Deep.CutRange
import Derived.Deep.RegionHeld3
namespace Go.Proofs.Ytepobckhfodngan
open Go.ChangeShapes Go.WideShapes Go.ChangeAt Go.RowKit
set_option linter.unusedVariables false

def crossV (q : Int) (xs ys : List Int) (i j : Int) : Int := (xs.getD i.toNat 0 * ys.getD j.toNat 0 + xs.getD j.toNat 0 * ys.getD i.toNat 0) % q
def crossR (q : Int) (xs ys : List Int) (i j : Int) : MIntResult := if (q = 2 ∨ q = 256) ∧ Two i j then (if xs.length = 4 ∧ ys.length = 4 then (if okV q xs = true ∧ okV q ys = true then ⟨0, crossV q xs ys i j⟩ else ⟨3, 0⟩) else ⟨1, 0⟩) else ⟨3, 0⟩
theorem crossR_out {q : Int} {xs ys : List Int} {i j : Int} (h : ¬ ((q = 2 ∨ q = 256) ∧ Two i j)) : crossR q xs ys i j = ⟨3, 0⟩ := if_neg h
theorem crossR_form {q : Int} {xs ys : List Int} {i j : Int} (h : (q = 2 ∨ q = 256) ∧ Two i j) (k : ¬ (xs.length = 4 ∧ ys.length = 4)) : crossR q xs ys i j = ⟨1, 0⟩ := by unfold crossR; rw [if_pos h, if_neg k]
theorem crossR_bad {q : Int} {xs ys : List Int} {i j : Int} (h : (q = 2 ∨ q = 256) ∧ Two i j) (k : xs.length = 4 ∧ ys.length = 4) (l : ¬ (okV q xs = true ∧ okV q ys = true)) : crossR q xs ys i j = ⟨3, 0⟩ := by unfold crossR; rw [if_pos h, if_pos k, if_neg l]
theorem crossR_in {q : Int} {xs ys : List Int} {i j : Int} (h : (q = 2 ∨ q = 256) ∧ Two i j) (k : xs.length = 4 ∧ ys.length = 4) (l : okV q xs = true ∧ okV q ys = true) : crossR q xs ys i j = ⟨0, crossV q xs ys i j⟩ := by unfold crossR; rw [if_pos h, if_pos k, if_pos l]
theorem mod_two (a b q : Int) : (a % q + b % q) % q = (a + b) % q := by rw [Int.add_emod a b q]
theorem cross_small {a b c d : Int} (ha : 0 ≤ a ∧ a ≤ 255) (hb : 0 ≤ b ∧ b ≤ 255) (hc : 0 ≤ c ∧ c ≤ 255) (hd : 0 ≤ d ∧ d ≤ 255) : (0 ≤ a * b ∧ a * b ≤ 65025) ∧ (0 ≤ c * d ∧ c * d ≤ 65025) := by
  have h1 := Int.mul_le_mul ha.2 hb.2 hb.1 (by omega : (0 : Int) ≤ 255)
  have h2 := Int.mul_le_mul hc.2 hd.2 hd.1 (by omega : (0 : Int) ≤ 255)
  exact ⟨⟨Int.mul_nonneg ha.1 hb.1, by omega⟩, ⟨Int.mul_nonneg hc.1 hd.1, by omega⟩⟩
end Go.Proofs.Ytepobckhfodngan
