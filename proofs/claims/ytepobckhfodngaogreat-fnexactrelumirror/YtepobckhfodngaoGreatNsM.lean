/-
  Sheets: six shares in one block, one behind the other.
-/
import Derived.Test.YtepobckhfodngaoGreatNX
import Derived.Test.YtepobckhfodngaoGreatLf
import Derived.Test.YtepobckhfodngaoGreatIjM
namespace Go.Proofs.YtepobckhfodngaoGreat
open Go.ChangeShapes Go.WideShapes Go.ChangeAt Go.RowKit
set_option linter.unusedVariables false
/-- cells laid over others, from o on -/
def setMany (cs : Array Value) (o : Nat) : List Value → Array Value
  | [] => cs
  | v :: r => setMany (cs.setIfInBounds o v) (o + 1) r
theorem setMany_size : ∀ (vs : List Value) (cs : Array Value) (o : Nat), (setMany cs o vs).size = cs.size
  | [], cs, o => rfl
  | v :: r, cs, o => by rw [setMany, setMany_size r]; simp
theorem setMany_get : ∀ (vs : List Value) (cs : Array Value) (o k : Nat), o + vs.length ≤ cs.size → (setMany cs o vs)[k]? = if o ≤ k ∧ k < o + vs.length then vs[k - o]? else cs[k]?
  | [], cs, o, k, h => by rw [setMany, if_neg (by simp)]
  | v :: r, cs, o, k, h => by
    simp only [List.length_cons] at h
    rw [setMany, setMany_get r _ (o + 1) k (by simp; omega)]
    by_cases h1 : k = o
    · subst h1
      rw [if_neg (by omega), if_pos ⟨Nat.le_refl _, by simp⟩]
      rw [Nat.sub_self, List.getElem?_cons_zero, Array.getElem?_setIfInBounds_self_of_lt (by omega)]
    · by_cases h2 : o + 1 ≤ k ∧ k < o + 1 + r.length
      · rw [if_pos h2, if_pos ⟨by omega, by simp; omega⟩, show k - o = (k - (o + 1)) + 1 by omega, List.getElem?_cons_succ]
      · rw [if_neg h2, if_neg (by simp; omega), Array.getElem?_setIfInBounds_ne (fun e => h1 e.symm)]
theorem Blk.setMid {b : Nat} {T : TypeId} : ∀ (vs : List Value) (o : Nat) (w : World) (cs : Array Value), Blk w b T cs → Blk (w.setCells b o vs) b T (setMany cs o vs)
  | [], o, w, cs, h => by rw [World.setCells]; exact h
  | v :: r, o, w, cs, h => by rw [World.setCells, setMany]; exact Blk.setMid r (o + 1) _ _ (h.set o v)
theorem Blk.thereAt {w : World} {b : Nat} {T : TypeId} {cs : Array Value} (h : Blk w b T cs) (o n : Nat) (hn : o + n ≤ cs.size) : w.there b o n := fun j hj => ⟨by rw [h.at.1]; simp; omega, h.at.2 _⟩
/-- six lists of seventeen numbers, one behind the other -/
def shL (P : Nat → List Int) : List Int := (List.range 102).map fun (k : Nat) => (P (k / 17)).getD (k % 17) 0
theorem shL_get (P : Nat → List Int) {k : Nat} (h : k < 102) : (shL P)[k]? = some ((P (k / 17)).getD (k % 17) 0) := by
  unfold shL
  rw [List.getElem?_map, List.getElem?_range h]
  rfl
theorem shL_out (P : Nat → List Int) {k : Nat} (h : ¬ k < 102) : (shL P)[k]? = none := by
  unfold shL
  rw [List.getElem?_eq_none (by rw [List.length_map, List.length_range]; omega)]
theorem cells1_get (l : List Int) (k : Nat) : (cells1 l)[k]? = (l[k]?).map (Value.int .i64) := by simp [cells1]
theorem cells1_getL (l : List Int) (k : Nat) : (cells1 l).toList[k]? = (l[k]?).map (Value.int .i64) := by simp [cells1]
theorem shL_len (P : Nat → List Int) : (shL P).length = 102 := by unfold shL; rw [List.length_map, List.length_range]
def updP (P : Nat → List Int) (i : Nat) (v : List Int) : Nat → List Int := fun j => if j = i then v else P j
theorem updP_same (P : Nat → List Int) (i : Nat) (v : List Int) : updP P i v i = v := if_pos rfl
theorem updP_ne (P : Nat → List Int) {i j : Nat} (v : List Int) (h : j ≠ i) : updP P i v j = P j := if_neg h
theorem shL_range {w : World} {g : Nat} {T : TypeId} {P : Nat → List Int} (h : Blk w g T (cells1 (shL P))) (i : Nat) (hi : i < 6) (hl : (P i).length = 17) : w.rangeAt g (i * 17) (cells1 (P i)).toList := fun j v hv => by
  rw [h.at.1]
  have hj : j < 17 := by
    have := (List.getElem?_eq_some_iff.1 hv).1
    simpa [cells1, hl] using this
  rw [← hv]
  have e1 : (i * 17 + j) / 17 = i := by omega
  have e2 : (i * 17 + j) % 17 = j := by omega
  have hlt : i * 17 + j < 102 := by omega
  have e3 : (P i)[j]? = some ((P i).getD j 0) := by rw [List.getD_eq_getElem?_getD, List.getElem?_eq_getElem (by omega)]; rfl
  rw [cells1_get, cells1_getL, shL_get P hlt, e1, e2, e3]
theorem shL_upd (P : Nat → List Int) (i : Nat) (v : List Int) (hi : i < 6) (hl : v.length = 17) : setMany (cells1 (shL P)) (i * 17) (cells1 v).toList = cells1 (shL (updP P i v)) := by
  have hvl : (cells1 v).toList.length = 17 := by simp [cells1, hl]
  have hsz : (cells1 (shL P)).size = 102 := by rw [cells1_size, shL_len]
  apply Array.ext_getElem?
  intro k
  rw [setMany_get _ _ _ _ (by rw [hvl, hsz]; omega), hvl]
  by_cases h : i * 17 ≤ k ∧ k < i * 17 + 17
  · rw [if_pos h]
    have e1 : k / 17 = i := by omega
    have e2 : k % 17 = k - i * 17 := by omega
    have hlt : k < 102 := by omega
    have e3 : v[k - i * 17]? = some (v.getD (k - i * 17) 0) := by rw [List.getD_eq_getElem?_getD, List.getElem?_eq_getElem (by omega)]; rfl
    rw [cells1_get, cells1_getL, shL_get _ hlt, e1, updP_same, e2, e3]
  · rw [if_neg h]
    by_cases hlt : k < 102
    · have e1 : k / 17 ≠ i := by omega
      rw [cells1_get, cells1_get, shL_get _ hlt, shL_get _ hlt, updP_ne P v e1]
    · rw [cells1_get, cells1_get, shL_out _ hlt, shL_out _ hlt]
theorem step_store_sheet {P : Program} {w : World} {ops : Array Oper} {o : Oper} {a : Act} {K : Act → World → Prop} {Q : Exit → Act → World → Prop} {E : Prop} (hgd : o.guard = none) (T : TypeId) (x y : Operand) (ho : o.op = .store T x y)
    (b i : Nat) (v : List Int) (hx : a.eval x = .pointer (some ⟨b, i * 17, none⟩)) (hy : a.eval y = .agg (cells1 v)) {R : Nat → List Int} {T' : TypeId} (h : Blk w b T' (cells1 (shL R))) (hi6 : i < 6) (hl : v.length = 17)
    (hi : (P.info? T).map (·.size) = some (cells1 v).size) (k : ∀ w', Blk w' b T' (cells1 (shL (updP R i v))) → Off [b] w w' → K (a.put o.dst undef) w') :
    if Region.wanted o (yielded ops a.tmps) = true then Oper.wp P o a w K Q else E := by
  rw [if_pos (by simp [Region.wanted, hgd])]
  exact wp_store_mid T x y ho b (i * 17) (cells1 v) hx hy (h.thereAt _ _ (by rw [cells1_size, cells1_size, shL_len, hl]; omega)) hi (cells1_one _) (k _ (by rw [← shL_upd R i v hi6 hl]; exact h.setMid _ _ _ _) (Off.setCells _ _ _))
end Go.Proofs.YtepobckhfodngaoGreat
