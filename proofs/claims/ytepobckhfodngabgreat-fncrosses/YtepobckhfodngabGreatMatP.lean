/-
  Lists of lists that are owned: one number written anew; a row, or the whole, cut at its head. Nothing of the program is named here.
-/
import Derived.Test.YtepobckhfodngabGreatMat
namespace Go.Proofs.YtepobckhfodngabGreat
open Go.ChangeShapes Go.WideShapes Go.ChangeAt Go.RowKit
set_option linter.unusedVariables false

/-- where row i lies -/
theorem Mat.row {w : World} {v : Value} {xss : List (List Int)} {bs : List Nat} (h : Mat w v xss bs) (i : Nat) (hi : i < xss.length) (hr : 0 < (xss.getD i []).length) :
    ∃ g c gi ci, v = .slice (some ⟨g, 0, none⟩) xss.length c ∧ w.cell? ⟨g, i, none⟩ = some (.slice (some ⟨gi, 0, none⟩) (xss.getD i []).length ci) ∧ w.frozen? ⟨g, i, none⟩ = false ∧ g ∈ bs ∧ gi ∈ bs ∧ gi ≠ g ∧ (xss.getD i []).length ≤ ci ∧
      (∀ j, j < (xss.getD i []).length → w.cell? ⟨gi, j, none⟩ = some (.int .i64 ((xss.getD i []).getD j 0)) ∧ w.frozen? ⟨gi, j, none⟩ = false) ∧
      (∀ W cs, Off cs w W → (∀ z ∈ bs, z ∉ cs) → ∀ j y, Mat (W.setCell ⟨gi, j, none⟩ (.int .i64 y)) v (xss.set i ((xss.getD i []).set j y)) bs) := by
  obtain ⟨vs, bo, bi, hO, hR, rfl, hd⟩ := h
  obtain ⟨g, c, rfl, rfl, hc1, hc2⟩ := Own.shape hO (by omega)
  obtain ⟨u, b, hu, hb, hI⟩ := hR.get i hi
  obtain ⟨gi, ci, rfl, rfl, hci, _⟩ := hI.shape hr
  obtain ⟨te, hI⟩ := hI
  have hgi : gi ∈ bi.flatten := mem_flat hb (by simp)
  have hne : gi ≠ g := fun e => (List.nodup_append.1 hd).2.2 g (by simp) gi hgi e.symm
  refine ⟨g, c, gi, ci, rfl, by rw [Own.cell hO i (by omega)]; exact hu, Own.frozen hO i, by simp, by simp; exact .inr (by simpa using hgi), hne, hci, fun j hj => ⟨?_, Own.frozen hI j⟩, fun W cs oW hcs j y => ?_⟩
  · rw [Own.cell hI j (by omega)]
    generalize xss.getD i [] = row at *
    simp [hj]
  · replace hO := Own.off hO oW (fun z hz => hcs z (by simp at hz ⊢; exact .inl hz))
    replace hR := hR.off oW (fun z hz => hcs z (by simp at hz ⊢; exact .inr hz))
    replace hI := Own.off hI oW (fun z hz => hcs z (by simp at hz; subst hz; simp; exact .inr (by simpa using hgi)))
    have hI2 : Ints (W.setCell ⟨gi, j, none⟩ (.int .i64 y)) (.slice (some ⟨gi, 0, none⟩) (xss.getD i []).length ci) ((xss.getD i []).set j y) [gi] := by
      have := Own.set hI j (.int .i64 y)
      refine ⟨te, ?_⟩
      rw [List.length_set, List.map_set]
      exact this
    refine ⟨vs, [g], bi, ?_, hR.upd hi hu hb ((Off.refl _ _).setCell _ _ (by simp)) hI2 (List.nodup_append.1 hd).2.1, rfl, hd⟩
    rw [List.length_set]
    exact Own.setOther hO _ _ (by simpa using hne)
theorem Mat.cap {w : World} {a : Addr} {n c : Nat} {xss : List (List Int)} {bs : List Nat} (h : Mat w (.slice (some a) n c) xss bs) : n ≤ c ∧ c ≤ maxLen := by
  obtain ⟨vs, bo, bi, hO, hR, rfl, hd⟩ := h
  rcases hO.2 with ⟨k, _⟩ | ⟨g', cap', cur, _, k, _, h1, h2, _⟩
  · cases k
  · simp only [Value.slice.injEq] at k
    obtain ⟨_, rfl, rfl⟩ := k
    exact ⟨h1, h2⟩
/-- the whole, cut at its head -/
theorem ReadsM.drop1 {w : World} {g o c : Nat} {xss : List (List Int)} (h : ReadsM w (.slice (some ⟨g, o, none⟩) xss.length c) xss) (hx : 1 < xss.length) : ReadsM w (.slice (some ⟨g, o + 1, none⟩) (xss.length - 1) (c - 1)) (xss.drop 1) := by
  obtain ⟨a, cap, hv, hm, hA⟩ := h
  simp only [Value.slice.injEq] at hv
  obtain ⟨rfl, _, rfl⟩ := hv
  obtain ⟨g', o', e, hlt, hc⟩ := hA (by intro e; rw [e] at hx; simp at hx)
  simp at e
  obtain ⟨rfl, rfl⟩ := e
  refine ⟨_, c - 1, by simp, by simp; omega, fun _ => ⟨g, o + 1, rfl, hlt, fun i hi => ?_⟩⟩
  have hi' : i + 1 < xss.length := by simp at hi; omega
  have e2 : (xss.drop 1).getD i [] = xss.getD (i + 1) [] := by simp [List.getD_eq_getElem?_getD]
  rw [e2, Nat.add_assoc, Nat.add_comm 1 i]
  exact hc (i + 1) hi'
/-- row i, cut at its head -/
theorem Mat.cut {w : World} {v : Value} {xss : List (List Int)} {bs : List Nat} (h : Mat w v xss bs) (i : Nat) (hi : i < xss.length) (hr : 1 < (xss.getD i []).length) :
    ∃ g c gi ci, v = .slice (some ⟨g, 0, none⟩) xss.length c ∧ w.cell? ⟨g, i, none⟩ = some (.slice (some ⟨gi, 0, none⟩) (xss.getD i []).length ci) ∧ w.frozen? ⟨g, i, none⟩ = false ∧ g ∈ bs ∧ (xss.getD i []).length ≤ ci ∧
      ∀ W cs, Off cs (w.setCell ⟨g, i, none⟩ (.slice (some ⟨gi, 1, none⟩) ((xss.getD i []).length - 1) (ci - 1))) W → (∀ y ∈ bs, y ∉ cs) → ReadsM W v (xss.set i ((xss.getD i []).drop 1)) := by
  have hle := h.value
  obtain ⟨g, c, gi, ci, rfl, c1, f1, hg, hgi, hne, hci, hcells, _⟩ := h.row i hi (by omega)
  have hlt := h.lt
  obtain ⟨vs, bo, bi, hO, hR, rfl, hd⟩ := h
  obtain ⟨g', c', rfl, e, _, _⟩ := Own.shape hO (by omega)
  simp only [Value.slice.injEq, Option.some.injEq, Addr.mk.injEq] at e
  obtain ⟨⟨rfl, _⟩, _, rfl⟩ := e
  have hm := Own.le hO
  have hg0 : g < w.heap.size := Own.lt hO g (by simp)
  have hO' : Off [g] w (w.setCell ⟨g, i, none⟩ (.slice (some ⟨gi, 1, none⟩) ((xss.getD i []).length - 1) (ci - 1))) := (Off.refl _ _).setCell _ _ (by simp)
  refine ⟨g, c, gi, ci, rfl, c1, f1, by simp, hci, fun W cs oW hcs => ?_⟩
  have zW : w.heap.size ≤ W.heap.size := by have := oW.size; simpa [World.setCell] using this
  have sz : (w.setCell ⟨g, i, none⟩ (.slice (some ⟨gi, 1, none⟩) ((xss.getD i []).length - 1) (ci - 1))).heap.size = w.heap.size := by simp [World.setCell]
  have gW := (oW.at g (by rw [sz]; exact hg0) (hcs g (by simp))).1
  refine ⟨some ⟨g, 0, none⟩, c, by simp, by simp; exact hm, fun _ => ⟨g, 0, rfl, by omega, fun k hk => ?_⟩⟩
  rw [List.length_set] at hk
  rw [gW]
  have giW := (oW.at gi (by rw [sz]; exact hlt gi hgi) (hcs gi hgi)).1
  have lgi := hlt gi hgi
  by_cases e : i = k
  · subst e
    have e2 : (xss.set i ((xss.getD i []).drop 1)).getD i [] = (xss.getD i []).drop 1 := by simp [hi]
    rw [e2, Nat.zero_add, List.length_drop]
    have hrl : (xss.getD i []).length ≤ maxLen := by obtain ⟨u, b, _, _, hI⟩ := hR.get i hi; exact hI.le
    generalize xss.getD i [] = row at *
    refine ⟨some ⟨gi, 1, none⟩, ci - 1, World.cell?_setCell_same _ _ _ c1, some ⟨gi, 1, none⟩, ci - 1, by simp, ?_, fun _ => ⟨gi, 1, rfl, by omega, fun j hj => ?_⟩⟩
    · simp; omega
    · have hj' : j + 1 < row.length := by simp at hj; omega
      rw [giW, (hO'.at gi (hlt gi hgi) (by simpa using hne)).1 (1 + j), (hcells (1 + j) (by omega)).1, Nat.add_comm 1 j]
      simp [List.getD_eq_getElem?_getD]
  · have e2 : (xss.set i ((xss.getD i []).drop 1)).getD k [] = xss.getD k [] := by simp [List.getD_eq_getElem?_getD, List.getElem?_set_ne e]
    rw [e2, Nat.zero_add]
    obtain ⟨u, b, hu, hb, hI⟩ := hR.get k hk
    obtain ⟨p, cc, rfl⟩ := hI.value
    refine ⟨p, cc, ?_, ((hI.off hO' (fun y hy hm => (List.nodup_append.1 hd).2.2 g (by simp) y (mem_flat hb hy) (by simp at hm; exact hm.symm))).off oW (fun y hy => hcs y (by simp; exact .inr (by simpa using mem_flat hb hy)))).reads⟩
    rw [World.cell?_setCell_other _ _ _ _ (by intro h; simp at h; try exact e h), Own.cell hO k (by omega)]
    exact hu
end Go.Proofs.YtepobckhfodngabGreat
