/-
  Lists of lists, each one in a block that was made for whole numbers.
-/
import Derived.Test.YtepobckhfodngaoGreatApp
import Derived.Test.YtepobckhfodngaoGreatTy
namespace Go.Proofs.YtepobckhfodngaoGreat
open Go.ChangeShapes Go.WideShapes Go.ChangeAt Go.RowKit
set_option linter.unusedVariables false

theorem IntsT.keep {w w' : World} {v : Value} {xs : List Int} {bs : List Nat} (h : IntsT w v xs bs) (hb : Below w.heap.size w w') : IntsT w' v xs bs := Own.keep h hb
theorem IntsT.frame {w w' : World} {v : Value} {xs : List Int} {bs : List Nat} (h : IntsT w v xs bs) (k : ∀ g ∈ bs, w'.heap[g]? = w.heap[g]?) : IntsT w' v xs bs := Own.frame h k
theorem IntsT.lt {w : World} {v : Value} {xs : List Int} {bs : List Nat} (h : IntsT w v xs bs) : ∀ g ∈ bs, g < w.heap.size := Own.lt h
theorem IntsT.alloc {w : World} {v : Value} {xs : List Int} {bs : List Nat} (h : IntsT w v xs bs) (o : Obj) : IntsT (w.alloc o) v xs bs := Own.alloc h o
theorem IntsT.value {w : World} {v : Value} {xs : List Int} {bs : List Nat} (h : IntsT w v xs bs) : ∃ a cap, v = .slice a xs.length cap := Own.value h
theorem IntsT.setOther {w : World} {v : Value} {xs : List Int} {bs : List Nat} (h : IntsT w v xs bs) (a : Addr) (u : Value) (k : a.block ∉ bs) : IntsT (w.setCell a u) v xs bs := Own.setOther h a u k
theorem IntsT.off {bs cs : List Nat} {w w' : World} {v : Value} {xs : List Int} (h : IntsT w v xs bs) (hb : Off cs w w') (k : ∀ g ∈ bs, g ∉ cs) : IntsT w' v xs bs := Own.off h hb k
theorem IntsT.nodup {w : World} {v : Value} {xs : List Int} {bs : List Nat} (h : IntsT w v xs bs) : bs.Nodup := h.ints.nodup
theorem IntsT.nil (w : World) : IntsT w (.slice none 0 0) [] [] := ⟨rfl, .inl ⟨rfl, rfl, rfl⟩⟩
/-- the slices vs own the lists xss, the i-th in the blocks bi[i] -/
def RowsT (w : World) : List Value → List (List Int) → List (List Nat) → Prop
  | [], [], [] => True
  | v :: vs, xs :: xss, b :: bi => IntsT w v xs b ∧ RowsT w vs xss bi
  | _, _, _ => False

theorem RowsT.frame {w w' : World} : ∀ {vs : List Value} {xss : List (List Int)} {bi : List (List Nat)}, RowsT w vs xss bi → (∀ g ∈ bi.flatten, w'.heap[g]? = w.heap[g]?) → RowsT w' vs xss bi
  | [], [], [], _, _ => trivial
  | v :: vs, xs :: xss, b :: bi, h, k => ⟨IntsT.frame h.1 (fun g hg => k g (by simp [hg])), RowsT.frame h.2 (fun g hg => k g (by simp at hg ⊢; exact .inr hg))⟩
theorem RowsT.lt {w : World} : ∀ {vs : List Value} {xss : List (List Int)} {bi : List (List Nat)}, RowsT w vs xss bi → ∀ g ∈ bi.flatten, g < w.heap.size
  | [], [], [], _, g, hg => by simp at hg
  | v :: vs, xs :: xss, b :: bi, h, g, hg => by
    rw [List.flatten_cons, List.mem_append] at hg
    rcases hg with hg | hg
    · exact IntsT.lt h.1 g hg
    · exact RowsT.lt h.2 g hg
theorem RowsT.keep {w w' : World} {vs : List Value} {xss : List (List Int)} {bi : List (List Nat)} (h : RowsT w vs xss bi) (hb : Below w.heap.size w w') : RowsT w' vs xss bi := h.frame fun g hg => hb.block g (h.lt g hg)
theorem RowsT.off {w w' : World} {cs : List Nat} {vs : List Value} {xss : List (List Int)} {bi : List (List Nat)} (h : RowsT w vs xss bi) (hb : Off cs w w') (k : ∀ g ∈ bi.flatten, g ∉ cs) : RowsT w' vs xss bi := h.frame fun g hg => hb.block g (h.lt g hg) (k g hg)
theorem RowsT.len {w : World} : ∀ {vs : List Value} {xss : List (List Int)} {bi : List (List Nat)}, RowsT w vs xss bi → vs.length = xss.length ∧ bi.length = xss.length
  | [], [], [], _ => ⟨rfl, rfl⟩
  | v :: vs, xs :: xss, b :: bi, h => by have := RowsT.len h.2; simp [this]
theorem RowsT.snoc {w : World} : ∀ {vs : List Value} {xss : List (List Int)} {bi : List (List Nat)} {v : Value} {xs : List Int} {b : List Nat}, RowsT w vs xss bi → IntsT w v xs b → RowsT w (vs ++ [v]) (xss ++ [xs]) (bi ++ [b])
  | [], [], [], _, _, _, _, k => ⟨k, trivial⟩
  | v :: vs, xs :: xss, b :: bi, _, _, _, h, k => ⟨h.1, RowsT.snoc h.2 k⟩
theorem RowsT.get {w : World} : ∀ {vs : List Value} {xss : List (List Int)} {bi : List (List Nat)}, RowsT w vs xss bi → ∀ i (hi : i < xss.length), ∃ v b, vs[i]? = some v ∧ bi[i]? = some b ∧ IntsT w v (xss.getD i []) b
  | [], [], [], _, i, hi => by simp at hi
  | v :: vs, xs :: xss, b :: bi, h, 0, _ => ⟨v, b, rfl, rfl, h.1⟩
  | v :: vs, xs :: xss, b :: bi, h, i + 1, hi => by
    obtain ⟨v', b', h1, h2, h3⟩ := RowsT.get h.2 i (by simpa using hi)
    exact ⟨v', b', by simpa using h1, by simpa using h2, by simpa using h3⟩

/-- v owns the lists xss, in the blocks bs, no two of which are the same -/
def MatT (w : World) (v : Value) (xss : List (List Int)) (bs : List Nat) : Prop :=
  ∃ vs bo bi, Own w 25 1 v xss.length vs bo ∧ RowsT w vs xss bi ∧ bs = bo ++ bi.flatten ∧ bs.Nodup
theorem MatT.lt {w : World} {v : Value} {xss : List (List Int)} {bs : List Nat} (h : MatT w v xss bs) : ∀ g ∈ bs, g < w.heap.size := by
  obtain ⟨vs, bo, bi, h1, h2, rfl, _⟩ := h
  intro g hg
  rw [List.mem_append] at hg
  rcases hg with hg | hg
  · exact Own.lt h1 g hg
  · exact h2.lt g hg
theorem MatT.frame {w w' : World} {v : Value} {xss : List (List Int)} {bs : List Nat} (h : MatT w v xss bs) (k : ∀ g ∈ bs, w'.heap[g]? = w.heap[g]?) : MatT w' v xss bs := by
  obtain ⟨vs, bo, bi, h1, h2, rfl, h3⟩ := h
  exact ⟨vs, bo, bi, h1.frame (fun g hg => k g (by simp [hg])), h2.frame (fun g hg => k g (List.mem_append.2 (.inr hg))), rfl, h3⟩
theorem MatT.keep {w w' : World} {v : Value} {xss : List (List Int)} {bs : List Nat} (h : MatT w v xss bs) (hb : Below w.heap.size w w') : MatT w' v xss bs := h.frame fun g hg => hb.block g (h.lt g hg)
theorem MatT.off {w w' : World} {cs : List Nat} {v : Value} {xss : List (List Int)} {bs : List Nat} (h : MatT w v xss bs) (hb : Off cs w w') (k : ∀ g ∈ bs, g ∉ cs) : MatT w' v xss bs := h.frame fun g hg => hb.block g (h.lt g hg) (k g hg)
theorem MatT.alloc {w : World} {v : Value} {xss : List (List Int)} {bs : List Nat} (h : MatT w v xss bs) (o : Obj) : MatT (w.alloc o) v xss bs := h.keep ((Below.refl _ _).alloc (Nat.le_refl _) _)
theorem MatT.nil (w : World) : MatT w (.slice none 0 0) [] [] := ⟨[], [], [], ⟨rfl, .inl ⟨rfl, rfl, rfl⟩⟩, trivial, rfl, List.nodup_nil⟩
theorem MatT.value {w : World} {v : Value} {xss : List (List Int)} {bs : List Nat} (h : MatT w v xss bs) : ∃ a cap, v = .slice a xss.length cap := by
  obtain ⟨vs, bo, bi, h1, _⟩ := h
  exact Own.value h1

theorem RowsT.rows {w : World} : ∀ {vs : List Value} {xss : List (List Int)} {bi : List (List Nat)}, RowsT w vs xss bi → Rows w vs xss bi
  | [], [], [], _ => trivial
  | v :: vs, xs :: xss, b :: bi, h => ⟨IntsT.ints h.1, RowsT.rows h.2⟩
theorem MatT.mat {w : World} {v : Value} {xss : List (List Int)} {bs : List Nat} (h : MatT w v xss bs) : Mat w v xss bs := by
  obtain ⟨vs, bo, bi, h1, h2, h3⟩ := h
  exact ⟨vs, bo, bi, h1, h2.rows, h3⟩
/-- a slot of the outer list is filled -/
theorem MatT.fill {w : World} {g k n : Nat} {vs : List Value} {xss : List (List Int)} {bi : List (List Nat)} {u : Value} {ys : List Int} {b : List Nat}
    (ho : Own w 25 1 (.slice (some ⟨g, 0, none⟩) n n) n (vs ++ List.replicate (n - k) (.slice none 0 0)) [g]) (hr : RowsT w vs xss bi) (hi : IntsT w u ys b) (hk : k < n) (hv : vs.length = k)
    (hnd : (g :: bi.flatten).Nodup) (hd : Dj bi.flatten b) (hgb : g ∉ b) (hbn : b.Nodup) :
    Own (w.setCell ⟨g, k, none⟩ u) 25 1 (.slice (some ⟨g, 0, none⟩) n n) n ((vs ++ [u]) ++ List.replicate (n - (k + 1)) (.slice none 0 0)) [g] ∧ RowsT (w.setCell ⟨g, k, none⟩ u) (vs ++ [u]) (xss ++ [ys]) (bi ++ [b]) ∧ (g :: (bi ++ [b]).flatten).Nodup := by
  have hg : g ∉ bi.flatten := (List.nodup_cons.1 hnd).1
  refine ⟨?_, ?_, ?_⟩
  · have := Own.set ho k u
    rwa [nils_set vs n k _ hk hv] at this
  · exact RowsT.snoc (hr.frame fun x hx => Below.heap_setCell _ _ _ _ (fun e => hg (by have e' : x = g := e; rw [← e']; exact hx))) (IntsT.setOther hi _ _ hgb)
  · simp only [List.flatten_append, List.flatten_cons, List.flatten_nil, List.append_nil]
    rw [← List.cons_append]
    refine List.nodup_append.2 ⟨hnd, hbn, ?_⟩
    intro x hx y hy
    rcases List.mem_cons.1 hx with rfl | hx
    · intro e; exact hgb (e ▸ hy)
    · intro e; exact hd x hx (e ▸ hy)
theorem RowsT.push {W w3 : World} {vs : List Value} {xs : List (List Int)} {bi : List (List Nat)} {u : Value} {ys : List Int} {bs bo : List Nat} {g : Nat} (hR : RowsT W vs xs bi) (hI : IntsT W u ys bs) (hoff : Off bo W w3) (hnd : (bo ++ bi.flatten).Nodup)
    (hd : Dj bs (bo ++ bi.flatten)) (hbn : bs.Nodup) (hg : bo = [g] ∨ W.heap.size ≤ g) : RowsT w3 (vs ++ [u]) (xs ++ [ys]) (bi ++ [bs]) ∧ ([g] ++ (bi ++ [bs]).flatten).Nodup := by
  obtain ⟨n1, n2, n3⟩ := List.nodup_append.1 hnd
  refine ⟨RowsT.snoc (hR.off hoff fun x hx hm => n3 x hm x hx rfl) (hI.off hoff fun x hx hm => hd x hx (List.mem_append_left _ hm)), ?_⟩
  simp only [List.flatten_append, List.flatten_cons, List.flatten_nil, List.append_nil]
  have hgi : g ∉ bi.flatten := by
    rcases hg with rfl | hg
    · intro hm; exact n3 g (by simp) g hm rfl
    · intro hm; have := hR.lt g hm; omega
  have hgs : g ∉ bs := by
    rcases hg with rfl | hg
    · intro hm; exact hd g hm (by simp)
    · intro hm; have := hI.lt g hm; omega
  refine List.nodup_append.2 ⟨by simp, List.nodup_append.2 ⟨n2, hbn, ?_⟩, ?_⟩
  · intro x hx y hy e
    exact hd y hy (List.mem_append_right _ (e ▸ hx))
  · intro x hx y hy e
    simp at hx
    subst hx
    rcases List.mem_append.1 hy with hy | hy
    · exact hgi (e ▸ hy)
    · exact hgs (e ▸ hy)
end Go.Proofs.YtepobckhfodngaoGreat
