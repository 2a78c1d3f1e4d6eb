/-
  One list of a list of lists, made longer and laid back into its place. Nothing of the program is named here.
-/
import Derived.Test.YtepobckhfodngaoGreatMatT
namespace Go.Proofs.YtepobckhfodngaoGreat
open Go.ChangeShapes Go.WideShapes Go.ChangeAt Go.RowKit
set_option linter.unusedVariables false

theorem RowsT.put {w w' : World} {u : Value} {ys : List Int} {b : List Nat} : ∀ {vs : List Value} {xss : List (List Int)} {bi : List (List Nat)}, RowsT w vs xss bi → ∀ l, l < xss.length → (∀ j, j ≠ l → ∀ y ∈ bi.getD j [], w'.heap[y]? = w.heap[y]?) → IntsT w' u ys b → RowsT w' (vs.set l u) (xss.set l ys) (bi.set l b)
  | [], [], [], _, l, hl, _, _ => by simp at hl
  | v :: vs, xs :: xss, c :: bi, h, 0, _, k, hu => ⟨hu, h.2.frame fun y hy => by
      obtain ⟨c', hc', hy'⟩ := List.mem_flatten.1 hy
      obtain ⟨j, hj, rfl⟩ := List.getElem_of_mem hc'
      exact k (j + 1) (by omega) y (by simpa [hj] using hy')⟩
  | v :: vs, xs :: xss, c :: bi, h, l + 1, hl, k, hu => ⟨h.1.frame fun y hy => k 0 (by omega) y (by simpa using hy), RowsT.put h.2 l (by simpa using hl) (fun j hj y hy => k (j + 1) (by omega) y (by simpa using hy)) hu⟩
theorem flat_get : ∀ (bi : List (List Nat)) (j : Nat) {y : Nat}, y ∈ bi.getD j [] → y ∈ bi.flatten
  | [], _, _, h => by simp at h
  | c :: r, 0, y, h => by simp at h ⊢; exact .inl h
  | c :: r, j + 1, y, h => by
    rw [List.getD_cons_succ] at h
    rw [List.flatten_cons, List.mem_append]
    exact .inr (flat_get r j h)
theorem flat_apart : ∀ (bi : List (List Nat)) (i j : Nat), bi.flatten.Nodup → i ≠ j → ∀ y, y ∈ bi.getD i [] → y ∉ bi.getD j []
  | [], _, _, _, _, y, h => by simp at h
  | c :: r, 0, 0, _, hij, y, h => absurd rfl hij
  | c :: r, 0, j + 1, hn, _, y, h => by
    rw [List.flatten_cons, List.nodup_append] at hn
    rw [List.getD_cons_succ]
    exact fun hm => hn.2.2 y (by simpa using h) y (flat_get r j hm) rfl
  | c :: r, i + 1, 0, hn, _, y, h => by
    rw [List.flatten_cons, List.nodup_append] at hn
    rw [List.getD_cons_succ] at h
    exact fun hm => hn.2.2 y (by simpa using hm) y (flat_get r i h) rfl
  | c :: r, i + 1, j + 1, hn, hij, y, h => by
    rw [List.flatten_cons, List.nodup_append] at hn
    rw [List.getD_cons_succ] at h ⊢
    exact flat_apart r i j hn.2.1 (by omega) y h
theorem flat_put_sub : ∀ (bi : List (List Nat)) (l : Nat) (b : List Nat) {y : Nat}, y ∈ (bi.set l b).flatten → y ∈ bi.flatten ∨ y ∈ b
  | [], _, _, _, h => by simp at h
  | c :: r, 0, b, y, h => by
    rw [List.set_cons_zero, List.flatten_cons, List.mem_append] at h
    rw [List.flatten_cons, List.mem_append]
    exact h.elim .inr (fun h => .inl (.inr h))
  | c :: r, l + 1, b, y, h => by
    rw [List.set_cons_succ, List.flatten_cons, List.mem_append] at h
    rw [List.flatten_cons, List.mem_append]
    rcases h with h | h
    · exact .inl (.inl h)
    · exact (flat_put_sub r l b h).imp .inr id
theorem flat_put_nodup : ∀ (bi : List (List Nat)) (l : Nat) (b : List Nat), bi.flatten.Nodup → b.Nodup → (∀ y ∈ b, y ∈ bi.getD l [] ∨ y ∉ bi.flatten) → (bi.set l b).flatten.Nodup
  | [], _, _, _, _, _ => by simp
  | c :: r, 0, b, hn, hb, k => by
    rw [List.flatten_cons, List.nodup_append] at hn
    rw [List.set_cons_zero, List.flatten_cons, List.nodup_append]
    refine ⟨hb, hn.2.1, fun x hx y hy e => ?_⟩
    subst e
    rcases k x hx with h | h
    · exact hn.2.2 x (by simpa using h) x hy rfl
    · exact h (by rw [List.flatten_cons, List.mem_append]; exact .inr hy)
  | c :: r, l + 1, b, hn, hb, k => by
    rw [List.flatten_cons, List.nodup_append] at hn
    rw [List.set_cons_succ, List.flatten_cons, List.nodup_append]
    refine ⟨hn.1, flat_put_nodup r l b hn.2.1 hb (fun y hy => (k y hy).imp (by rw [List.getD_cons_succ]; exact id) (fun h hm => h (by rw [List.flatten_cons, List.mem_append]; exact .inr hm))), fun x hx y hy e => ?_⟩
    subst e
    rcases flat_put_sub r l b hy with h | h
    · exact hn.2.2 x hx x h rfl
    · rcases k x h with h' | h'
      · rw [List.getD_cons_succ] at h'
        exact hn.2.2 x hx x (flat_get r l h') rfl
      · exact h' (by rw [List.flatten_cons, List.mem_append]; exact .inl hx)
/-- one list of a list of lists: what is there, and what comes of it if it is made longer and laid back -/
theorem MatT.grow {w : World} {gH n d : Nat} {xss : List (List Int)} {bs : List Nat} (h : MatT w (.slice (some ⟨gH, 0, none⟩) n d) xss bs) (l : Nat) (hl : l < xss.length) :
    ∃ v b, IntsT w v (xss.getD l []) b ∧ w.cell? ⟨gH, l, none⟩ = some v ∧ w.frozen? ⟨gH, l, none⟩ = false ∧ gH ∉ b ∧ gH ∈ bs ∧ (∀ y ∈ b, y ∈ bs) ∧
      ∀ (w' : World) (u : Value) (ys : List Int) (g : Nat), Off b w w' → IntsT w' u ys [g] → (b = [g] ∨ w.heap.size ≤ g) → ∃ cs, MatT (w'.setCell ⟨gH, l, none⟩ u) (.slice (some ⟨gH, 0, none⟩) n d) (xss.set l ys) cs ∧ ∀ y ∈ cs, y ∈ bs ∨ y = g := by
  obtain ⟨vs, bo, bi, h1, h2, rfl, h3⟩ := h
  obtain ⟨a, c, e⟩ := Own.value h1
  simp at e
  obtain ⟨rfl, rfl, rfl⟩ := e
  obtain ⟨g', c', hbo, e, _⟩ := Own.shape h1 (by omega)
  simp at e
  obtain ⟨rfl, rfl⟩ := e
  subst hbo
  obtain ⟨n1, n2, n3⟩ := List.nodup_append.1 h3
  have hg : gH ∉ bi.flatten := fun hm => n3 gH (by simp) gH hm rfl
  obtain ⟨v, b, e1, e2, hI⟩ := h2.get l hl
  have hb : bi.getD l [] = b := by rw [List.getD_eq_getElem?_getD, e2]; rfl
  have hsub : ∀ y ∈ b, y ∈ bi.flatten := fun y hy => flat_get bi l (by rw [hb]; exact hy)
  have hlen : l < vs.length := by rw [h2.len.1]; exact hl
  refine ⟨v, b, hI, (Own.cell h1 l (by omega)).trans e1, Own.frozen h1 l, fun hm => hg (hsub _ hm), by simp, fun y hy => List.mem_append_right _ (hsub y hy), fun w' u ys g hO hu hgg => ?_⟩
  have hgne : g ≠ gH := by
    rcases hgg with e | e
    · exact fun e' => hg (hsub gH (by rw [e, e']; simp))
    · have := Own.lt h1 gH (by simp); omega
  have hO1 : Own w' 25 1 (.slice (some ⟨gH, 0, none⟩) xss.length d) xss.length vs [gH] := Own.off h1 hO (fun y hy hm => hg (hsub y hm |> fun h => by simp at hy; rw [← hy]; exact h))
  have hu' : IntsT (w'.setCell ⟨gH, l, none⟩ u) u ys [g] := hu.setOther _ _ (by simp; exact fun e => hgne e.symm)
  refine ⟨[gH] ++ (bi.set l [g]).flatten, ⟨vs.set l u, [gH], bi.set l [g], ?_, ?_, rfl, ?_⟩, ?_⟩
  · have := Own.set hO1 l u
    simpa using this
  · refine RowsT.put h2 l hl (fun j hj y hy => ?_) hu'
    have hyf := flat_get bi j hy
    have hyl := h2.lt y hyf
    rw [Below.heap_setCell _ _ _ _ (fun e => hg (by have e' : y = gH := e; rw [← e']; exact hyf))]
    exact hO.block y hyl (fun hm => flat_apart bi j l n2 hj y hy (by rw [hb]; exact hm))
  · refine List.nodup_append.2 ⟨by simp, flat_put_nodup bi l [g] n2 (by simp) (fun y hy => ?_), fun x hx y hy e => ?_⟩
    · simp at hy
      subst hy
      rcases hgg with e | e
      · exact .inl (by rw [hb, e]; simp)
      · exact .inr (fun hm => by have := h2.lt y hm; omega)
    · simp at hx
      subst hx
      subst e
      rcases flat_put_sub bi l [g] hy with h | h
      · exact hg h
      · simp at h; exact hgne h.symm
  · intro y hy
    rcases List.mem_append.1 hy with h | h
    · exact .inl (List.mem_append_left _ h)
    · rcases flat_put_sub bi l [g] h with h | h
      · exact .inl (List.mem_append_right _ h)
      · exact .inr (by simpa using h)
end Go.Proofs.YtepobckhfodngaoGreat
