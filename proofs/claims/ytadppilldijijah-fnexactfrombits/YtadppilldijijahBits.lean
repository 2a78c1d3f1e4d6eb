/-
  Contracts of BitsOf and FromBits, of the program and of its model.
-/
import Derived.Test.YtadppilldijijahElem
import Derived.Test.YtadppilldijijahEq
namespace Go.Proofs.Ytadppilldijijah
open Go.ChangeShapes Go.WideShapes Go.ChangeAt Go.RowKit
set_option linter.unusedVariables false

/-- n bits of v, the lowest first -/
def bitsN (v : Int) : Nat → List Int
  | 0 => []
  | n + 1 => v % 2 :: bitsN (v / 2) n
theorem bitsN_length (v : Int) (n : Nat) : (bitsN v n).length = n := by
  induction n generalizing v with
  | zero => rfl
  | succ n ih => simp [bitsN, ih]
/-- what is left of v behind n bits -/
def halfN (v : Int) : Nat → Int
  | 0 => v
  | n + 1 => halfN v n / 2
theorem halfN_half (v : Int) (n : Nat) : halfN (v / 2) n = halfN v n / 2 := by
  induction n with
  | zero => rfl
  | succ n ih => show halfN (v / 2) n / 2 = _; rw [ih]; rfl
theorem bitsN_snoc (v : Int) (n : Nat) : bitsN v (n + 1) = bitsN v n ++ [halfN v n % 2] := by
  induction n generalizing v with
  | zero => rfl
  | succ n ih => rw [bitsN, ih, halfN_half]; rfl
theorem halfN_range (v : Int) (n : Nat) (h : 0 ≤ v) (h' : v ≤ 255) : 0 ≤ halfN v n ∧ halfN v n ≤ 255 := by
  induction n with
  | zero => exact ⟨h, h'⟩
  | succ n ih => show 0 ≤ halfN v n / 2 ∧ halfN v n / 2 ≤ 255; omega


theorem halfN_pow (v : Int) (n : Nat) (h : 0 ≤ v) : halfN v n = v / 2 ^ n := by
  induction n with
  | zero => simp [halfN]
  | succ n ih => show halfN v n / 2 = _; rw [ih, Int.ediv_ediv_of_nonneg (Int.pow_nonneg (by omega)), Int.pow_succ]
theorem and_one_u16 (E : Int) (h0 : 0 ≤ E) (h1 : E ≤ 255) : bits BinOp.and IntKind.u16 E 1 = E % 2 := by
  have h : ∀ n : Fin 256, bits BinOp.and IntKind.u16 ((n.val : Nat) : Int) 1 = ((n.val : Nat) : Int) % 2 := by decide +kernel
  have := h ⟨E.toNat, by omega⟩
  simp only [Int.toNat_of_nonneg h0] at this
  exact this

/-- the bits of an element; none where it is none -/
def bitsL (v : Int) : List Int := if 0 ≤ v ∧ v ≤ 255 then bitsN v 8 else []
theorem bitsL_length (v : Int) : (bitsL v).length ≤ 8 := by unfold bitsL; split <;> simp [bitsN_length]
end Go.Proofs.Ytadppilldijijah
