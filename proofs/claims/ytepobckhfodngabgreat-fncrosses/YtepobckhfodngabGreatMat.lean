/-
  Lists of lists of whole numbers in memory: owned, each list in a block of its own; read; and the laws' helpers on them: sizes, copying, comparing, marking, holding.
-/
import Derived.Test.YtepobckhfodngabGreatEq
import Derived.Deep.RegionHeld3
namespace Go.Proofs.YtepobckhfodngabGreat
open Go.ChangeShapes Go.WideShapes Go.ChangeAt Go.RowKit
set_option linter.unusedVariables false

/-- the slices vs own the lists xss, the i-th in the blocks bi[i] -/
def Rows (w : World) : List Value → List (List Int) → List (List Nat) → Prop
  | [], [], [] => True
  | v :: vs, xs :: xss, b :: bi => Ints w v xs b ∧ Rows w vs xss bi
  | _, _, _ => False

theorem Rows.frame {w w' : World} : ∀ {vs : List Value} {xss : List (List Int)} {bi : List (List Nat)}, Rows w vs xss bi → (∀ g ∈ bi.flatten, w'.heap[g]? = w.heap[g]?) → Rows w' vs xss bi
  | [], [], [], _, _ => trivial
  | v :: vs, xs :: xss, b :: bi, h, k => ⟨Ints.frame h.1 (fun g hg => k g (by simp [hg])), Rows.frame h.2 (fun g hg => k g (by simp at hg ⊢; exact .inr hg))⟩
theorem Rows.lt {w : World} : ∀ {vs : List Value} {xss : List (List Int)} {bi : List (List Nat)}, Rows w vs xss bi → ∀ g ∈ bi.flatten, g < w.heap.size
  | [], [], [], _, g, hg => by simp at hg
  | v :: vs, xs :: xss, b :: bi, h, g, hg => by
    rw [List.flatten_cons, List.mem_append] at hg
    rcases hg with hg | hg
    · exact Ints.lt h.1 g hg
    · exact Rows.lt h.2 g hg
theorem Rows.keep {w w' : World} {vs : List Value} {xss : List (List Int)} {bi : List (List Nat)} (h : Rows w vs xss bi) (hb : Below w.heap.size w w') : Rows w' vs xss bi := h.frame fun g hg => hb.block g (h.lt g hg)
theorem Rows.off {w w' : World} {cs : List Nat} {vs : List Value} {xss : List (List Int)} {bi : List (List Nat)} (h : Rows w vs xss bi) (hb : Off cs w w') (k : ∀ g ∈ bi.flatten, g ∉ cs) : Rows w' vs xss bi := h.frame fun g hg => hb.block g (h.lt g hg) (k g hg)
theorem Rows.len {w : World} : ∀ {vs : List Value} {xss : List (List Int)} {bi : List (List Nat)}, Rows w vs xss bi → vs.length = xss.length ∧ bi.length = xss.length
  | [], [], [], _ => ⟨rfl, rfl⟩
  | v :: vs, xs :: xss, b :: bi, h => by have := Rows.len h.2; simp [this]
theorem Rows.snoc {w : World} : ∀ {vs : List Value} {xss : List (List Int)} {bi : List (List Nat)} {v : Value} {xs : List Int} {b : List Nat}, Rows w vs xss bi → Ints w v xs b → Rows w (vs ++ [v]) (xss ++ [xs]) (bi ++ [b])
  | [], [], [], _, _, _, _, k => ⟨k, trivial⟩
  | v :: vs, xs :: xss, b :: bi, _, _, _, h, k => ⟨h.1, Rows.snoc h.2 k⟩
theorem Rows.get {w : World} : ∀ {vs : List Value} {xss : List (List Int)} {bi : List (List Nat)}, Rows w vs xss bi → ∀ i (hi : i < xss.length), ∃ v b, vs[i]? = some v ∧ bi[i]? = some b ∧ Ints w v (xss.getD i []) b
  | [], [], [], _, i, hi => by simp at hi
  | v :: vs, xs :: xss, b :: bi, h, 0, _ => ⟨v, b, rfl, rfl, h.1⟩
  | v :: vs, xs :: xss, b :: bi, h, i + 1, hi => by
    obtain ⟨v', b', h1, h2, h3⟩ := Rows.get h.2 i (by simpa using hi)
    exact ⟨v', b', by simpa using h1, by simpa using h2, by simpa using h3⟩

/-- v owns the lists xss, in the blocks bs, no two of which are the same -/
def Mat (w : World) (v : Value) (xss : List (List Int)) (bs : List Nat) : Prop :=
  ∃ vs bo bi, Own w 27 1 v xss.length vs bo ∧ Rows w vs xss bi ∧ bs = bo ++ bi.flatten ∧ bs.Nodup
theorem Mat.lt {w : World} {v : Value} {xss : List (List Int)} {bs : List Nat} (h : Mat w v xss bs) : ∀ g ∈ bs, g < w.heap.size := by
  obtain ⟨vs, bo, bi, h1, h2, rfl, _⟩ := h
  intro g hg
  rw [List.mem_append] at hg
  rcases hg with hg | hg
  · exact Own.lt h1 g hg
  · exact h2.lt g hg
theorem Mat.frame {w w' : World} {v : Value} {xss : List (List Int)} {bs : List Nat} (h : Mat w v xss bs) (k : ∀ g ∈ bs, w'.heap[g]? = w.heap[g]?) : Mat w' v xss bs := by
  obtain ⟨vs, bo, bi, h1, h2, rfl, h3⟩ := h
  exact ⟨vs, bo, bi, h1.frame (fun g hg => k g (by simp [hg])), h2.frame (fun g hg => k g (List.mem_append.2 (.inr hg))), rfl, h3⟩
theorem Mat.keep {w w' : World} {v : Value} {xss : List (List Int)} {bs : List Nat} (h : Mat w v xss bs) (hb : Below w.heap.size w w') : Mat w' v xss bs := h.frame fun g hg => hb.block g (h.lt g hg)
theorem Mat.off {w w' : World} {cs : List Nat} {v : Value} {xss : List (List Int)} {bs : List Nat} (h : Mat w v xss bs) (hb : Off cs w w') (k : ∀ g ∈ bs, g ∉ cs) : Mat w' v xss bs := h.frame fun g hg => hb.block g (h.lt g hg) (k g hg)
theorem Mat.alloc {w : World} {v : Value} {xss : List (List Int)} {bs : List Nat} (h : Mat w v xss bs) (o : Obj) : Mat (w.alloc o) v xss bs := h.keep ((Below.refl _ _).alloc (Nat.le_refl _) _)
theorem Mat.nil (w : World) : Mat w (.slice none 0 0) [] [] := ⟨[], [], [], ⟨rfl, .inl ⟨rfl, rfl, rfl⟩⟩, trivial, rfl, List.nodup_nil⟩
theorem Mat.value {w : World} {v : Value} {xss : List (List Int)} {bs : List Nat} (h : Mat w v xss bs) : ∃ a cap, v = .slice a xss.length cap := by
  obtain ⟨vs, bo, bi, h1, _⟩ := h
  exact Own.value h1

/-- v is a slice of slices that reads the lists xss -/
def ReadsM (w : World) (v : Value) (xss : List (List Int)) : Prop :=
  ∃ a cap, v = .slice a xss.length cap ∧ xss.length ≤ maxLen ∧ (xss ≠ [] → ∃ b off, a = some ⟨b, off, none⟩ ∧ b < w.heap.size ∧ ∀ i, i < xss.length → ∃ p c, w.cell? ⟨b, off + i, none⟩ = some (.slice p (xss.getD i []).length c) ∧ Reads w .i64 (.slice p (xss.getD i []).length c) (xss.getD i []))
theorem ReadsM.below {w w' : World} {v : Value} {xss : List (List Int)} (h : ReadsM w v xss) (hb : Below w.heap.size w w') : ReadsM w' v xss := by
  obtain ⟨a, cap, rfl, hm, hr⟩ := h
  refine ⟨a, cap, rfl, hm, fun hx => ?_⟩
  obtain ⟨b, off, rfl, hlt, hc⟩ := hr hx
  refine ⟨b, off, rfl, Nat.lt_of_lt_of_le hlt hb.size, fun i hi => ?_⟩
  obtain ⟨p, c, h1, h2⟩ := hc i hi
  exact ⟨p, c, (hb.cell (p := ⟨b, off + i, none⟩) hlt).trans h1, h2.below hb⟩
theorem Mat.reads {w : World} {v : Value} {xss : List (List Int)} {bs : List Nat} (h : Mat w v xss bs) : ReadsM w v xss := by
  obtain ⟨vs, bo, bi, h1, h2, _, _⟩ := h
  obtain ⟨a, cap, hv⟩ := Own.value h1
  refine ⟨a, cap, hv, Own.le h1, fun hx => ?_⟩
  obtain ⟨g, c, hbs, hv', _, _⟩ := Own.shape h1 (List.length_pos_iff.2 hx)
  have hl := Own.lt h1
  subst hv'
  simp at hv
  obtain ⟨rfl, rfl⟩ := hv
  refine ⟨g, 0, rfl, hl g (by rw [hbs]; simp), fun i hi => ?_⟩
  obtain ⟨u, b, e1, _, k⟩ := h2.get i hi
  obtain ⟨p, c', rfl⟩ := Ints.value k
  refine ⟨p, c', ?_, Ints.reads k⟩
  rw [Nat.zero_add, Own.cell h1 i (by omega)]
  exact e1

/-- how many there are, lists and numbers -/
def tot : List (List Int) → Nat
  | [] => 0
  | xs :: r => xs.length + 1 + tot r

def sl : List (List Int) → Nat
  | [] => 0
  | xs :: r => xs.length + sl r
theorem tot_eq : ∀ xss : List (List Int), tot xss = xss.length + sl xss
  | [] => rfl
  | xs :: r => by simp only [tot, sl, tot_eq r, List.length_cons]; omega
theorem sl_append : ∀ a b : List (List Int), sl (a ++ b) = sl a + sl b
  | [], b => by simp [sl]
  | x :: a, b => by simp only [List.cons_append, sl, sl_append a b]; omega
theorem sl_take (xss : List (List Int)) (k : Nat) (h : k < xss.length) : sl (xss.take (k + 1)) = sl (xss.take k) + (xss.getD k []).length := by
  rw [List.take_succ_eq_append_getElem h, sl_append]
  simp [sl, h]
theorem sl_le (xss : List (List Int)) (k : Nat) : sl (xss.take k) ≤ sl xss := by
  have := sl_append (xss.take k) (xss.drop k)
  rw [List.take_append_drop] at this
  omega
theorem row_le (xss : List (List Int)) (k : Nat) (h : k < xss.length) : (xss.getD k []).length ≤ sl xss := by
  have h1 := sl_take xss k h
  have h2 := sl_le xss (k + 1)
  omega
/-- what is left of a size -/
def szR (left : Int) (n : Nat) : Int := if (n : Int) ≤ left then left - n else -1
theorem szR_yes {left : Int} {n : Nat} (h : (n : Int) ≤ left) : szR left n = left - n := if_pos h
theorem szR_no {left : Int} {n : Nat} (h : left < (n : Int)) : szR left n = -1 := if_neg (by omega)

theorem Tryz.infoS : (Tryz.prog.info? 27).map (fun i => (i.zero, i.size, i.bytes)) = some (some (.slice none 0 0), 1, 24) := by kernel_rfl
theorem nils_set (vs : List Value) (n k : Nat) (u : Value) (hk : k < n) (hv : vs.length = k) : (vs ++ List.replicate (n - k) (Value.slice none 0 0)).set k u = (vs ++ [u]) ++ List.replicate (n - (k + 1)) (Value.slice none 0 0) := by
  rw [List.set_append_right _ _ (by omega), hv, show n - k = (n - (k + 1)) + 1 by omega]
  simp only [Nat.sub_self, List.replicate_succ, List.set_cons_zero, List.append_assoc, List.singleton_append]

theorem two_keep {w w' : World} {a b : Addr} {s t : Value} (h : w.cell? a = some s ∧ w.cell? b = some t) (hb : Below w.heap.size w w') : w'.cell? a = some s ∧ w'.cell? b = some t :=
  ⟨kcell h.1 hb, kcell h.2 hb⟩
/-- marks row by row -/
def marksM (k : Int) : List (List Int) → List (List Int)
  | [] => []
  | xs :: r => marks k xs.length :: marksM (k + xs.length) r
theorem marksM_length : ∀ (k : Int) (xss : List (List Int)), (marksM k xss).length = xss.length
  | _, [] => rfl
  | k, xs :: r => by simp [marksM, marksM_length]
theorem marksM_getD : ∀ (k : Int) (xss : List (List Int)) (i : Nat), i < xss.length → (marksM k xss).getD i [] = marks (k + (sl (xss.take i) : Nat)) (xss.getD i []).length
  | k, [], i, h => by simp at h
  | k, xs :: r, 0, _ => by simp [marksM, sl]
  | k, xs :: r, i + 1, h => by
    have := marksM_getD (k + xs.length) r i (by simpa using h)
    simp only [marksM, List.getD_cons_succ, List.take_succ_cons, sl]
    rw [this]
    congr 1
    omega
theorem marksM_sl : ∀ (k : Int) (xss : List (List Int)) (i : Nat), sl ((marksM k xss).take i) = sl (xss.take i)
  | _, [], i => by simp [marksM]
  | _, _ :: _, 0 => by simp [sl]
  | k, xs :: r, i + 1 => by simp [marksM, sl, marks_length, marksM_sl]

theorem mem_flat {bi : List (List Nat)} {i : Nat} {b : List Nat} (h : bi[i]? = some b) {g : Nat} (hg : g ∈ b) : g ∈ bi.flatten :=
  List.mem_flatten.2 ⟨b, List.mem_of_getElem? h, hg⟩
/-- one row is written anew, the others stay -/
theorem Rows.upd {w w' : World} : ∀ {vs : List Value} {xss : List (List Int)} {bi : List (List Nat)} {i : Nat} {v : Value} {b : List Nat} {ys : List Int}, Rows w vs xss bi → i < xss.length → vs[i]? = some v → bi[i]? = some b → Off b w w' → Ints w' v ys b → bi.flatten.Nodup → Rows w' vs (xss.set i ys) bi
  | [], [], [], i, _, _, _, _, hi, _, _, _, _, _ => by simp at hi
  | v :: vs, xs :: xss, b :: bi, 0, _, _, ys, h, _, hv, hb, ho, hn, hd => by
    simp at hv hb
    subst hv hb
    rw [List.flatten_cons, List.nodup_append] at hd
    exact ⟨hn, h.2.off ho fun g hg hm => hd.2.2 g hm g hg rfl⟩
  | v :: vs, xs :: xss, b :: bi, i + 1, _, b', ys, h, hi, hv, hb, ho, hn, hd => by
    simp at hv hb hi
    rw [List.flatten_cons, List.nodup_append] at hd
    exact ⟨Ints.off h.1 ho fun g hg hm => hd.2.2 g hg g (mem_flat hb hm) rfl, Rows.upd h.2 hi hv hb ho hn hd.2.1⟩
def mixM (k : Int) (xss : List (List Int)) (j : Nat) : List (List Int) := (marksM k xss).take j ++ xss.drop j
theorem mixM_length (k : Int) (xss : List (List Int)) (j : Nat) (h : j ≤ xss.length) : (mixM k xss j).length = xss.length := by
  simp [mixM, marksM_length]; omega
theorem mixM_set (k : Int) (xss : List (List Int)) (j : Nat) (h : j < xss.length) : (mixM k xss j).set j ((marksM k xss).getD j []) = mixM k xss (j + 1) := by
  have hl : j < (marksM k xss).length := by rw [marksM_length]; exact h
  unfold mixM
  have e : ((marksM k xss).take j).length = j := by simp [marksM_length]; omega
  have hg : (marksM k xss).getD j [] = (marksM k xss)[j] := by simp [hl]
  rw [List.set_append_right _ _ (by omega), e, Nat.sub_self, List.drop_eq_getElem_cons h, List.set_cons_zero, List.take_succ_eq_append_getElem hl, hg]
  simp only [List.append_assoc, List.singleton_append]
theorem mixM_getD (k : Int) (xss : List (List Int)) (j : Nat) (h : j < xss.length) : (mixM k xss j).getD j [] = xss.getD j [] := by
  have hl : ((marksM k xss).take j).length = j := by simp [marksM_length]; omega
  unfold mixM
  rw [List.getD_eq_getElem?_getD, List.getElem?_append_right (by omega), hl, Nat.sub_self]
  simp
end Go.Proofs.YtepobckhfodngabGreat
