/-
  Lists of mirrors in memory: read, owned; and the laws' helpers on them: sizes, copying, comparing, marking, holding.
-/
import Derived.Test.YtepobckhfodngalGreatWhole
import Derived.Deep.RegionHeld3
namespace Go.Proofs.YtepobckhfodngalGreat
open Go.ChangeShapes Go.WideShapes Go.ChangeAt Go.RowKit
set_option linter.unusedVariables false

def zM : MMirror := ⟨0, []⟩
/-- v is a slice of mirrors that reads xs -/
def RdMirrorS (w : World) (v : Value) (xs : List MMirror) : Prop :=
  ∃ a cap, v = .slice a xs.length cap ∧ xs.length ≤ maxLen ∧ (xs ≠ [] → ∃ b off, a = some ⟨b, off, none⟩ ∧ b < w.heap.size ∧ ∀ i, i < xs.length → ∃ p c, w.cell? ⟨b, off + i * 2, none⟩ = some (.int .i64 (xs.getD i zM).xQ) ∧ w.cell? ⟨b, off + i * 2 + 1, none⟩ = some (.slice p (xs.getD i zM).xViews.length c) ∧ ReadsM w (.slice p (xs.getD i zM).xViews.length c) (xs.getD i zM).xViews)
theorem RdMirrorS.below {w w' : World} {v : Value} {xs : List MMirror} (h : RdMirrorS w v xs) (hb : Below w.heap.size w w') : RdMirrorS w' v xs := by
  obtain ⟨a, cap, rfl, hm, hr⟩ := h
  refine ⟨a, cap, rfl, hm, fun hx => ?_⟩
  obtain ⟨b, off, rfl, hlt, hc⟩ := hr hx
  refine ⟨b, off, rfl, Nat.lt_of_lt_of_le hlt hb.size, fun i hi => ?_⟩
  obtain ⟨p, c, h0, h1, h2⟩ := hc i hi
  exact ⟨p, c, (hb.cell (p := ⟨b, off + i * 2, none⟩) hlt).trans h0, (hb.cell (p := ⟨b, off + i * 2 + 1, none⟩) hlt).trans h1, h2.below hb⟩
theorem RdMirrorS.shp {w : World} {v : Value} {xs : List MMirror} (h : RdMirrorS w v xs) : ∃ p c, v = .slice p xs.length c := by
  obtain ⟨a, cap, rfl, _⟩ := h
  exact ⟨a, cap, rfl⟩
def smT : List MMirror → Nat
  | [] => 0
  | x :: r => tot x.xViews + smT r
def smC : List MMirror → Nat
  | [] => 0
  | x :: r => 1 + sl x.xViews + smC r
def totMirrorS (xs : List MMirror) : Nat := xs.length + smT xs
def cntMirrorS (xs : List MMirror) : Nat := smC xs
theorem cntMirrorS_le : ∀ xs : List MMirror, cntMirrorS xs ≤ totMirrorS xs
  | [] => Nat.le_refl _
  | x :: r => by
    have h1 := cntMirrorS_le r
    have h2 := tot_eq x.xViews
    unfold cntMirrorS totMirrorS at *
    simp only [smC, smT, List.length_cons]
    omega
theorem smT_take : ∀ (xs : List MMirror) (k : Nat), k < xs.length → smT (xs.take (k + 1)) = smT (xs.take k) + tot (xs.getD k zM).xViews
  | [], k, h => by simp at h
  | x :: r, 0, _ => by simp [smT]
  | x :: r, k + 1, h => by
    have := smT_take r k (by simpa using h)
    simp only [List.take_succ_cons, smT, List.getD_cons_succ, this]
    omega
theorem smT_le : ∀ (xs : List MMirror) (k : Nat), smT (xs.take k) ≤ smT xs
  | [], k => by simp [smT]
  | x :: r, 0 => by simp [smT]
  | x :: r, k + 1 => by have := smT_le r k; simp only [List.take_succ_cons, smT]; omega
theorem smC_take : ∀ (xs : List MMirror) (k : Nat), k < xs.length → smC (xs.take (k + 1)) = smC (xs.take k) + (1 + sl (xs.getD k zM).xViews)
  | [], k, h => by simp at h
  | x :: r, 0, _ => by simp [smC]
  | x :: r, k + 1, h => by
    have := smC_take r k (by simpa using h)
    simp only [List.take_succ_cons, smC, List.getD_cons_succ, this]
    omega
theorem smC_le : ∀ (xs : List MMirror) (k : Nat), smC (xs.take k) ≤ smC xs
  | [], k => by simp [smC]
  | x :: r, 0 => by simp [smC]
  | x :: r, k + 1 => by have := smC_le r k; simp only [List.take_succ_cons, smC]; omega

/-- the slices us own the views of the mirrors xs, the i-th in the blocks bi[i] -/
def MsR (w : World) : List Value → List MMirror → List (List Nat) → Prop
  | [], [], [] => True
  | u :: us, x :: xs, b :: bi => Mat w u x.xViews b ∧ MsR w us xs bi
  | _, _, _ => False
/-- the cells of mirrors -/
def msC : List Value → List MMirror → List Value
  | u :: us, x :: xs => .int .i64 x.xQ :: u :: msC us xs
  | _, _ => []
theorem MsR.frame {w w' : World} : ∀ {us : List Value} {xs : List MMirror} {bi : List (List Nat)}, MsR w us xs bi → (∀ g ∈ bi.flatten, w'.heap[g]? = w.heap[g]?) → MsR w' us xs bi
  | [], [], [], _, _ => trivial
  | u :: us, x :: xs, b :: bi, h, k => ⟨h.1.frame (fun g hg => k g (by simp [hg])), MsR.frame h.2 (fun g hg => k g (by simp at hg ⊢; exact .inr hg))⟩
theorem MsR.lt {w : World} : ∀ {us : List Value} {xs : List MMirror} {bi : List (List Nat)}, MsR w us xs bi → ∀ g ∈ bi.flatten, g < w.heap.size
  | [], [], [], _, g, hg => by simp at hg
  | u :: us, x :: xs, b :: bi, h, g, hg => by
    rw [List.flatten_cons, List.mem_append] at hg
    rcases hg with hg | hg
    · exact h.1.lt g hg
    · exact MsR.lt h.2 g hg
theorem MsR.keep {w w' : World} {us : List Value} {xs : List MMirror} {bi : List (List Nat)} (h : MsR w us xs bi) (hb : Below w.heap.size w w') : MsR w' us xs bi := h.frame fun g hg => hb.block g (h.lt g hg)
theorem MsR.off {w w' : World} {cs : List Nat} {us : List Value} {xs : List MMirror} {bi : List (List Nat)} (h : MsR w us xs bi) (hb : Off cs w w') (k : ∀ g ∈ bi.flatten, g ∉ cs) : MsR w' us xs bi := h.frame fun g hg => hb.block g (h.lt g hg) (k g hg)
theorem MsR.len {w : World} : ∀ {us : List Value} {xs : List MMirror} {bi : List (List Nat)}, MsR w us xs bi → us.length = xs.length ∧ bi.length = xs.length
  | [], [], [], _ => ⟨rfl, rfl⟩
  | u :: us, x :: xs, b :: bi, h => by have := MsR.len h.2; simp [this]
theorem MsR.snoc {w : World} : ∀ {us : List Value} {xs : List MMirror} {bi : List (List Nat)} {u : Value} {x : MMirror} {b : List Nat}, MsR w us xs bi → Mat w u x.xViews b → MsR w (us ++ [u]) (xs ++ [x]) (bi ++ [b])
  | [], [], [], _, _, _, _, k => ⟨k, trivial⟩
  | u :: us, x :: xs, b :: bi, _, _, _, h, k => ⟨h.1, MsR.snoc h.2 k⟩
theorem MsR.get {w : World} : ∀ {us : List Value} {xs : List MMirror} {bi : List (List Nat)}, MsR w us xs bi → ∀ i (hi : i < xs.length), ∃ u b, us[i]? = some u ∧ bi[i]? = some b ∧ Mat w u (xs.getD i zM).xViews b
  | [], [], [], _, i, hi => by simp at hi
  | u :: us, x :: xs, b :: bi, h, 0, _ => ⟨u, b, rfl, rfl, h.1⟩
  | u :: us, x :: xs, b :: bi, h, i + 1, hi => by
    obtain ⟨v', b', h1, h2, h3⟩ := MsR.get h.2 i (by simpa using hi)
    exact ⟨v', b', by simpa using h1, by simpa using h2, by simpa using h3⟩
theorem msC_len : ∀ {us : List Value} {xs : List MMirror}, us.length = xs.length → (msC us xs).length = xs.length * 2
  | [], [], _ => rfl
  | u :: us, x :: xs, h => by
    have := msC_len (us := us) (xs := xs) (by simpa using h)
    simp [msC, this]
    omega
theorem msC_snoc : ∀ {us : List Value} {xs : List MMirror} (u : Value) (x : MMirror), us.length = xs.length → msC (us ++ [u]) (xs ++ [x]) = msC us xs ++ [.int .i64 x.xQ, u]
  | [], [], _, _, _ => rfl
  | v :: us, y :: xs, u, x, h => by
    have := msC_snoc (us := us) (xs := xs) u x (by simpa using h)
    simp [msC, this]
theorem msC_get : ∀ {us : List Value} {xs : List MMirror}, us.length = xs.length → ∀ i, i < xs.length → (msC us xs)[i * 2]? = some (.int .i64 (xs.getD i zM).xQ) ∧ (msC us xs)[i * 2 + 1]? = us[i]?
  | [], [], _, i, hi => by simp at hi
  | u :: us, x :: xs, h, 0, _ => by simp [msC]
  | u :: us, x :: xs, h, i + 1, hi => by
    have := msC_get (us := us) (xs := xs) (by simpa using h) i (by simpa using hi)
    rw [show (i + 1) * 2 = i * 2 + 1 + 1 by omega]
    simpa [msC] using this
/-- v owns the mirrors xs, in the blocks bs, no two of which are the same -/
def OwMirrorS (w : World) (v : Value) (xs : List MMirror) (bs : List Nat) : Prop :=
  ∃ us bo bi, Own w 36 2 v xs.length (msC us xs) bo ∧ MsR w us xs bi ∧ bs = bo ++ bi.flatten ∧ bs.Nodup
theorem OwMirrorS.lt {w : World} {v : Value} {xs : List MMirror} {bs : List Nat} (h : OwMirrorS w v xs bs) : ∀ g ∈ bs, g < w.heap.size := by
  obtain ⟨us, bo, bi, h1, h2, rfl, _⟩ := h
  intro g hg
  rw [List.mem_append] at hg
  rcases hg with hg | hg
  · exact Own.lt h1 g hg
  · exact h2.lt g hg
theorem OwMirrorS.frame {w w' : World} {v : Value} {xs : List MMirror} {bs : List Nat} (h : OwMirrorS w v xs bs) (k : ∀ g ∈ bs, w'.heap[g]? = w.heap[g]?) : OwMirrorS w' v xs bs := by
  obtain ⟨us, bo, bi, h1, h2, rfl, h3⟩ := h
  exact ⟨us, bo, bi, h1.frame (fun g hg => k g (by simp [hg])), h2.frame (fun g hg => k g (List.mem_append.2 (.inr hg))), rfl, h3⟩
theorem OwMirrorS.keep {w w' : World} {v : Value} {xs : List MMirror} {bs : List Nat} (h : OwMirrorS w v xs bs) (hb : Below w.heap.size w w') : OwMirrorS w' v xs bs := h.frame fun g hg => hb.block g (h.lt g hg)
theorem OwMirrorS.off {w w' : World} {cs : List Nat} {v : Value} {xs : List MMirror} {bs : List Nat} (h : OwMirrorS w v xs bs) (hb : Off cs w w') (k : ∀ g ∈ bs, g ∉ cs) : OwMirrorS w' v xs bs := h.frame fun g hg => hb.block g (h.lt g hg) (k g hg)
theorem OwMirrorS.alloc {w : World} {v : Value} {xs : List MMirror} {bs : List Nat} (h : OwMirrorS w v xs bs) (o : Obj) : OwMirrorS (w.alloc o) v xs bs := h.keep ((Below.refl _ _).alloc (Nat.le_refl _) _)
theorem OwMirrorS.drew {w : World} {v : Value} {xs : List MMirror} {bs : List Nat} (h : OwMirrorS w v xs bs) : OwMirrorS w.drew v xs bs := h.keep (Below.refl _ _).drew
theorem OwMirrorS.nil (w : World) : OwMirrorS w (.slice none 0 0) [] [] := ⟨[], [], [], ⟨rfl, .inl ⟨rfl, rfl, rfl⟩⟩, trivial, rfl, List.nodup_nil⟩
theorem OwMirrorS.value {w : World} {v : Value} {xs : List MMirror} {bs : List Nat} (h : OwMirrorS w v xs bs) : ∃ a cap, v = .slice a xs.length cap := by
  obtain ⟨us, bo, bi, h1, _⟩ := h
  exact Own.value h1
theorem OwMirrorS.reads {w : World} {v : Value} {xs : List MMirror} {bs : List Nat} (h : OwMirrorS w v xs bs) : RdMirrorS w v xs := by
  obtain ⟨us, bo, bi, h1, h2, _, _⟩ := h
  obtain ⟨a, cap, hv⟩ := Own.value h1
  refine ⟨a, cap, hv, Own.le h1, fun hx => ?_⟩
  obtain ⟨g, c, hbs, hv', _, _⟩ := Own.shape h1 (List.length_pos_iff.2 hx)
  have hl := Own.lt h1
  subst hv'
  simp at hv
  obtain ⟨rfl, rfl⟩ := hv
  refine ⟨g, 0, rfl, hl g (by rw [hbs]; simp), fun i hi => ?_⟩
  obtain ⟨u, b, e1, _, k⟩ := h2.get i hi
  obtain ⟨p, c', rfl⟩ := Mat.value k
  have hm := msC_get h2.len.1 i hi
  refine ⟨p, c', ?_, ?_, k.reads⟩
  · rw [Nat.zero_add, Own.cell h1 (i * 2) (by omega)]
    exact hm.1
  · rw [Nat.zero_add, Own.cell h1 (i * 2 + 1) (by omega), hm.2]
    exact e1

theorem Tryz.infoM : (Tryz.prog.info? 36).map (fun i => (i.zero, i.size, i.bytes)) = some (some (.agg #[.int .i64 0, .slice none 0 0]), 2, 32) := by kernel_rfl
theorem ms_set (A zs : List Value) (n k : Nat) (a b : Value) (hA : A.length = k * 2) (hz : zs.length = n * 2) (hk : k < n) : ((A ++ zs.drop (k * 2)).set (k * 2) a).set (k * 2 + 1) b = (A ++ [a, b]) ++ zs.drop ((k + 1) * 2) := by
  have hd : zs.drop (k * 2) = zs[k * 2]'(by omega) :: zs[k * 2 + 1]'(by omega) :: zs.drop ((k + 1) * 2) := by
    rw [List.drop_eq_getElem_cons (by omega), List.drop_eq_getElem_cons (show k * 2 + 1 < zs.length by omega), show k * 2 + 1 + 1 = (k + 1) * 2 by omega]
  rw [hd, List.set_append_right _ _ (by omega), hA, Nat.sub_self, List.set_cons_zero, List.set_append_right _ _ (by omega), hA, show k * 2 + 1 - k * 2 = 1 by omega]
  simp
end Go.Proofs.YtepobckhfodngalGreat
