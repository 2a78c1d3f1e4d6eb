/-
  What InputMirror answers is small enough to be compared.
-/
import Derived.Test.YtadppilldijijalInM
namespace Go.Proofs.Ytadppilldijijal
open Go.ChangeShapes Go.WideShapes Go.ChangeAt Go.RowKit
set_option linter.unusedVariables false
theorem inHd_sl (x : MNet) (o : Nat) (left : Int) (n : Nat) : sl (inHd x o left (n + 1)) ≤ 2 * sl (inHd x o left n) + 1 := by
  by_cases h : n ≠ o
  · rw [(in2_in h).2.1]
    have h2 := sl_set_le (inHd x o left n) n ((inHd x o left n).getD n [] ++ [inT x o left n])
    have h4 : ((inHd x o left n).getD n []).length ≤ sl (inHd x o left n) := by
      by_cases hk : n < (inHd x o left n).length
      · exact row_le _ _ hk
      · rw [show (inHd x o left n).getD n [] = [] by simp [List.getD_eq_getElem?_getD, List.getElem?_eq_none (Nat.le_of_not_lt hk)]]; simp
    rw [List.length_append] at h2
    simp only [List.length_cons, List.length_nil] at h2
    omega
  · rw [(in2_out (by omega)).2.1]; omega
theorem inputR_cnt (x : MNet) (o v : Int) (h : totNet x ≤ 1048576) : cntMixResult (inputR x o v) ≤ 268435456 := by
  have h1 := cntNet_le x
  have h3 : cntNet x = cntTape x.xTape + x.xUsed.length + sl x.xHeard := rfl
  by_cases k : ownC x o = 0
  · by_cases k1 : 0 ≤ v ∧ v < 256
    · rw [inputR_in k k1]
      have e1 := inHd_sl x o.toNat (inL x o.toNat v 4) 0
      have e2 := inHd_sl x o.toNat (inL x o.toNat v 4) 1
      have e3 := inHd_sl x o.toNat (inL x o.toNat v 4) 2
      have e4 := inHd_sl x o.toNat (inL x o.toNat v 4) 3
      have e0 : inHd x o.toNat (inL x o.toNat v 4) 0 = x.xHeard := rfl
      rw [e0] at e1
      have hu := inU_len x.xUsed o.toNat 4
      have hm : sl (mirRows (inParts x o.toNat v)) = 16 := sl_mirRows (by unfold inParts; rw [List.length_set]; exact inP_len x o.toNat 4)
      show sl (mirRows (inParts x o.toNat v)) + (cntTape x.xTape + (inU x.xUsed o.toNat 4).length + sl (inHd x o.toNat (inL x o.toNat v 4) 4)) ≤ 268435456
      rw [hm, hu]
      simp only [Nat.zero_add, Nat.reduceAdd] at e1 e2 e3 e4
      omega
    · rw [inputR_out k k1]; show 0 + (0 + 0 + 0) ≤ _; omega
  · rw [inputR_fault k]; show 0 + (0 + 0 + 0) ≤ _; omega
end Go.Proofs.Ytadppilldijijal
