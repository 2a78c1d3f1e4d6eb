/-
  Eight shares in one block, one behind the other: bits.
-/
import Derived.Test.YtepobckhfodngaoGreatNsM
import Derived.Test.YtepobckhfodngaoGreatSgM
namespace Go.Proofs.YtepobckhfodngaoGreat
open Go.ChangeShapes Go.WideShapes Go.ChangeAt Go.RowKit
set_option linter.unusedVariables false
/-- eight lists of seventeen numbers, one behind the other -/
def shB (P : Nat → List Int) : List Int := (List.range 136).map fun (k : Nat) => (P (k / 17)).getD (k % 17) 0
theorem shB_get (P : Nat → List Int) {k : Nat} (h : k < 136) : (shB P)[k]? = some ((P (k / 17)).getD (k % 17) 0) := by
  unfold shB
  rw [List.getElem?_map, List.getElem?_range h]
  rfl
theorem shB_out (P : Nat → List Int) {k : Nat} (h : ¬ k < 136) : (shB P)[k]? = none := by
  unfold shB
  rw [List.getElem?_eq_none (by rw [List.length_map, List.length_range]; omega)]
theorem cells1_getB (l : List Int) (k : Nat) : (cells1 l)[k]? = (l[k]?).map (Value.int .i64) := by simp [cells1]
theorem cells1_getLB (l : List Int) (k : Nat) : (cells1 l).toList[k]? = (l[k]?).map (Value.int .i64) := by simp [cells1]
theorem shB_len (P : Nat → List Int) : (shB P).length = 136 := by unfold shB; rw [List.length_map, List.length_range]
theorem shB_range {w : World} {g : Nat} {T : TypeId} {P : Nat → List Int} (h : Blk w g T (cells1 (shB P))) (i : Nat) (hi : i < 8) (hl : (P i).length = 17) : w.rangeAt g (i * 17) (cells1 (P i)).toList := fun j v hv => by
  rw [h.at.1]
  have hj : j < 17 := by
    have := (List.getElem?_eq_some_iff.1 hv).1
    simpa [cells1, hl] using this
  rw [← hv]
  have e1 : (i * 17 + j) / 17 = i := by omega
  have e2 : (i * 17 + j) % 17 = j := by omega
  have hlt : i * 17 + j < 136 := by omega
  have e3 : (P i)[j]? = some ((P i).getD j 0) := by rw [List.getD_eq_getElem?_getD, List.getElem?_eq_getElem (by omega)]; rfl
  rw [cells1_getB, cells1_getLB, shB_get P hlt, e1, e2, e3]
theorem shB_upd (P : Nat → List Int) (i : Nat) (v : List Int) (hi : i < 8) (hl : v.length = 17) : setMany (cells1 (shB P)) (i * 17) (cells1 v).toList = cells1 (shB (updP P i v)) := by
  have hvl : (cells1 v).toList.length = 17 := by simp [cells1, hl]
  have hsz : (cells1 (shB P)).size = 136 := by rw [cells1_size, shB_len]
  apply Array.ext_getElem?
  intro k
  rw [setMany_get _ _ _ _ (by rw [hvl, hsz]; omega), hvl]
  by_cases h : i * 17 ≤ k ∧ k < i * 17 + 17
  · rw [if_pos h]
    have e1 : k / 17 = i := by omega
    have e2 : k % 17 = k - i * 17 := by omega
    have hlt : k < 136 := by omega
    have e3 : v[k - i * 17]? = some (v.getD (k - i * 17) 0) := by rw [List.getD_eq_getElem?_getD, List.getElem?_eq_getElem (by omega)]; rfl
    rw [cells1_getB, cells1_getLB, shB_get _ hlt, e1, updP_same, e2, e3]
  · rw [if_neg h]
    by_cases hlt : k < 136
    · have e1 : k / 17 ≠ i := by omega
      rw [cells1_getB, cells1_getB, shB_get _ hlt, shB_get _ hlt, updP_ne P v e1]
    · rw [cells1_getB, cells1_getB, shB_out _ hlt, shB_out _ hlt]
theorem step_store_bits {P : Program} {w : World} {ops : Array Oper} {o : Oper} {a : Act} {K : Act → World → Prop} {Q : Exit → Act → World → Prop} {E : Prop} (hgd : o.guard = none) (T : TypeId) (x y : Operand) (ho : o.op = .store T x y)
    (b i : Nat) (v : List Int) (hx : a.eval x = .pointer (some ⟨b, i * 17, none⟩)) (hy : a.eval y = .agg (cells1 v)) {R : Nat → List Int} {T' : TypeId} (h : Blk w b T' (cells1 (shB R))) (hi8 : i < 8) (hl : v.length = 17)
    (hi : (P.info? T).map (·.size) = some (cells1 v).size) (k : ∀ w', Blk w' b T' (cells1 (shB (updP R i v))) → Off [b] w w' → K (a.put o.dst undef) w') :
    if Region.wanted o (yielded ops a.tmps) = true then Oper.wp P o a w K Q else E := by
  rw [if_pos (by simp [Region.wanted, hgd])]
  exact wp_store_mid T x y ho b (i * 17) (cells1 v) hx hy (h.thereAt _ _ (by rw [cells1_size, cells1_size, shB_len, hl]; omega)) hi (cells1_one _) (k _ (by rw [← shB_upd R i v hi8 hl]; exact h.setMid _ _ _ _) (Off.setCells _ _ _))
theorem shB_bits (xss : List (List Int)) (part : Nat) : kn (bpF xss part) 136 = shB (fun k => 2 :: sgP xss part k) := by
  unfold kn shB
  refine List.map_congr_left (fun j hj => ?_)
  have hj : j < 136 := by simpa using hj
  rw [if_pos hj]
  show bpF xss part j = ((2 : Int) :: sgP xss part (j / 17)).getD (j % 17) 0
  by_cases h : j % 17 = 0
  · rw [h, show j = j / 17 * 17 by omega, bpF_q]
    rfl
  · have e1 : j % 17 = (j % 17 - 1) + 1 := by omega
    rw [e1, List.getD_cons_succ]
    unfold sgP shV
    rw [List.getD_eq_getElem?_getD, List.getElem?_map, List.getElem?_range (by omega)]
    show bpF xss part j = bpF xss part (j / 17 * 17 + 1 + (j % 17 - 1))
    rw [show j / 17 * 17 + 1 + (j % 17 - 1) = j by omega]
end Go.Proofs.YtepobckhfodngaoGreat
