/-
  Rows of products in the model: a number put to a part, and what all begin with.
-/
import Derived.Test.YtepobckhfodnganSpA
import Derived.Test.YtepobckhfodnganMirO
namespace Go.Proofs.Ytepobckhfodngan
open Go.ChangeShapes Go.WideShapes Go.ChangeAt Go.RowKit
set_option linter.unusedVariables false

theorem unflat_row (fs : List Int) (p : Nat) (hp : p < 4) : (unflat fs).getD p [] = row4 fs p := by
  obtain rfl | rfl | rfl | rfl : p = 0 ∨ p = 1 ∨ p = 2 ∨ p = 3 := by omega
  all_goals rfl
theorem unflat_set {fs : List Int} (h : fs.length = 16) (p k : Nat) (hp : p < 4) (hk : k < 4) (y : Int) : unflat (fs.set (p * 4 + k) y) = (unflat fs).set p ((row4 fs p).set k y) := by
  obtain ⟨a0, a1, a2, a3, b0, b1, b2, b3, c0, c1, c2, c3, d0, d1, d2, d3, rfl⟩ := lit16 h
  obtain rfl | rfl | rfl | rfl : p = 0 ∨ p = 1 ∨ p = 2 ∨ p = 3 := by omega
  all_goals
    obtain rfl | rfl | rfl | rfl : k = 0 ∨ k = 1 ∨ k = 2 ∨ k = 3 := by omega
    all_goals rfl
/-- one part of owned views: where it lies, and what comes of writing it -/
theorem Mat.part {w : World} {v : Value} {fs : List Int} {bs : List Nat} (h : Mat w v (unflat fs) bs) (hf : fs.length = 16) (p : Nat) (hp : p < 4) :
    ∃ gv cv gr cr, v = .slice (some ⟨gv, 0, none⟩) 4 cv ∧ w.cell? ⟨gv, p, none⟩ = some (.slice (some ⟨gr, 0, none⟩) 4 cr) ∧ gv ∈ bs ∧ gr ∈ bs ∧ gv ≠ gr ∧ (∀ k, k < 4 → w.cell? ⟨gr, k, none⟩ = some (.int .i64 (fs.getD (p * 4 + k) 0)) ∧ w.frozen? ⟨gr, k, none⟩ = false) ∧ ∀ W : World, (∀ g ∈ bs, W.heap[g]? = w.heap[g]?) → ∀ k y, k < 4 → Mat (W.setCell ⟨gr, k, none⟩ (.int .i64 y)) v (unflat (fs.set (p * 4 + k) y)) bs := by
  obtain ⟨vs, bo, bi, hO, hR, rfl, hd⟩ := h
  have h4 : (unflat fs).length = 4 := rfl
  obtain ⟨gv, cv, rfl, rfl, _, _⟩ := Own.shape hO (by rw [h4]; omega)
  obtain ⟨u, b, hu, hb, hI⟩ := hR.get p (by rw [h4]; exact hp)
  rw [unflat_row fs p hp] at hI
  have hr4 : (row4 fs p).length = 4 := rfl
  have hI' := hI
  obtain ⟨te, hI⟩ := hI
  obtain ⟨gr, cr, rfl, rfl, _, _⟩ := Own.shape hI (by rw [hr4]; omega)
  have hgr : gr ∈ bi.flatten := mem_flat hb (by simp)
  have hgv : gv ∉ bi.flatten := fun hm => (List.nodup_append.1 hd).2.2 gv (by simp) gv hm rfl
  refine ⟨gv, cv, gr, cr, by rw [h4], ?_, by simp, List.mem_append_right _ hgr, fun e => hgv (e ▸ hgr), fun k hk => ⟨?_, Own.frozen hI k⟩, fun W hW k y hk => ?_⟩
  · rw [Own.cell hO p (by rw [h4]; omega), hu, hr4]
  · rw [Own.cell hI k (by rw [hr4]; omega), List.getElem?_map, List.getElem?_eq_getElem (by rw [hr4]; exact hk)]
    have := row4_getD fs p k hk
    rw [List.getD_eq_getElem?_getD, List.getElem?_eq_getElem (by rw [hr4]; exact hk)] at this
    simp only [Option.getD_some] at this
    simp [this]
  · replace hO := hO.frame (fun g hg => hW g (List.mem_append_left _ hg))
    replace hR := hR.frame (fun g hg => hW g (List.mem_append_right _ hg))
    replace hI := hI.frame (fun g hg => hW g (List.mem_append_right _ (mem_flat hb hg)))
    have hoff : Off [gr] W (W.setCell ⟨gr, k, none⟩ (.int .i64 y)) := (Off.refl _ _).setCell _ _ (by simp)
    have hI2 : Ints (W.setCell ⟨gr, k, none⟩ (.int .i64 y)) (.slice (some ⟨gr, 0, none⟩) (row4 fs p).length cr) ((row4 fs p).set k y) [gr] := by
      have := Own.set hI k (.int .i64 y)
      refine ⟨te, ?_⟩
      rw [List.length_set]
      simpa [List.map_set] using this
    rw [unflat_set hf p k hp hk]
    exact ⟨vs, [gv], bi, by rw [List.length_set]; exact hO.off hoff (by simp; exact fun e => hgv (e ▸ hgr)), hR.upd (by rw [h4]; exact hp) hu hb hoff hI2 (List.nodup_append.1 hd).2.1, rfl, hd⟩
/-- the mirror of q and of these sixteen numbers lies in block b, its views in the blocks bs -/
def MirIn (w : World) (b : Nat) (q : Int) (fs : List Int) (bs : List Nat) : Prop := ∃ v, Blk w b 30 #[.int .i64 q, v] ∧ Mat w v (unflat fs) bs ∧ b ∉ bs
theorem MirIn.lt {w : World} {b : Nat} {q : Int} {fs : List Int} {bs : List Nat} (h : MirIn w b q fs bs) : b < w.heap.size := by obtain ⟨v, h1, _⟩ := h; exact h1.lt
theorem MirIn.lts {w : World} {b : Nat} {q : Int} {fs : List Int} {bs : List Nat} (h : MirIn w b q fs bs) : ∀ y ∈ bs, y < w.heap.size := by obtain ⟨v, _, h1, _⟩ := h; exact h1.lt
theorem MirIn.off {w w' : World} {b : Nat} {q : Int} {fs : List Int} {bs cs : List Nat} (h : MirIn w b q fs bs) (k : Off cs w w') (h0 : b ∉ cs) (hd : ∀ y ∈ bs, y ∉ cs) : MirIn w' b q fs bs := by
  obtain ⟨v, h1, h2, h3⟩ := h
  exact ⟨v, h1.off k h0, h2.off k hd, h3⟩
theorem MirIn.keep {w w' : World} {b : Nat} {q : Int} {fs : List Int} {bs : List Nat} (h : MirIn w b q fs bs) (k : Below w.heap.size w w') : MirIn w' b q fs bs := h.off (cs := []) (Off.ofBelow k) (by simp) (by simp)
theorem MirIn.q0 {w : World} {b : Nat} {q : Int} {fs : List Int} {bs : List Nat} (h : MirIn w b q fs bs) : w.cell? ⟨b, 0, none⟩ = some (.int .i64 q) := by obtain ⟨v, h1, _⟩ := h; exact h1.at.1 0
/-- no party's own part stands in its view -/
def OwnT (vss : List (List (List Int))) : Prop := ∀ t p, pt (vss.getD t []) p p = 0
theorem sqN_own {xss yss : List (List (List Int))} (h : OwnT xss) (p : Nat) : ∀ n, sqN xss yss p p n = 0
  | 0 => rfl
  | n + 1 => by rw [sqN, sqN_own h p n, h n p, Int.zero_mul, Int.add_zero]
def begT (q : Int) (xss yss : List (List (List Int))) (n m : Nat) : List Int := (List.range 16).map fun (j : Nat) => if j < m then sqN xss yss (j / 4) (j % 4) n % q else 0
theorem begT_len (q : Int) (xss yss : List (List (List Int))) (n m : Nat) : (begT q xss yss n m).length = 16 := by simp [begT]
theorem begT_all (q : Int) (xss yss : List (List (List Int))) (n : Nat) : begT q xss yss n 16 = sqF q xss yss n := by
  unfold begT sqF
  refine List.map_congr_left fun j hj => ?_
  rw [if_pos (by simpa using hj)]
theorem begT_zero (q : Int) (xss yss : List (List (List Int))) (n : Nat) : unflat (begT q xss yss n 0) = mirRows [0, 0, 0, 0] := rfl
theorem begT_set (q : Int) (xss yss : List (List (List Int))) (n p k : Nat) (hp : p < 4) (hk : k < 4) : (begT q xss yss n (p * 4 + k)).set (p * 4 + k) (sqN xss yss p k n % q) = begT q xss yss n (p * 4 + (k + 1)) := by
  have e1 : (p * 4 + k) / 4 = p := by omega
  have e2 : (p * 4 + k) % 4 = k := by omega
  refine List.ext_getElem (by simp [begT]) fun j h1 h2 => ?_
  have hj : j < 16 := by simpa [begT] using h2
  rw [List.getElem_set]
  by_cases e : p * 4 + k = j
  · subst e
    simp only [if_true, begT, List.getElem_map, List.getElem_range, e1, e2]
    rw [if_pos (by omega)]
  · rw [if_neg e]
    simp only [begT, List.getElem_map, List.getElem_range]
    by_cases e3 : j < p * 4 + k
    · rw [if_pos e3, if_pos (by omega)]
    · rw [if_neg e3, if_neg (by omega)]
theorem begT_own {q : Int} {xss yss : List (List (List Int))} (h : OwnT xss) (n p : Nat) (hp : p < 4) : begT q xss yss n (p * 4 + p) = begT q xss yss n (p * 4 + (p + 1)) := by
  rw [← begT_set q xss yss n p p hp hp, sqN_own h p n]
  have h16 : p * 4 + p < 16 := by omega
  refine List.ext_getElem (by simp [begT]) fun j h1 h2 => ?_
  rw [List.getElem_set]
  by_cases e : p * 4 + p = j
  · subst e
    simp [begT]
  · rw [if_neg e]
end Go.Proofs.Ytepobckhfodngan
