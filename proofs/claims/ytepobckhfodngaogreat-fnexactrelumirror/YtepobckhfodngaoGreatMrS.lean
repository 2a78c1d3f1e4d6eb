/-
  Lists of mirrors in memory: read, owned; and the laws' helpers on them: sizes, copying, comparing, marking, holding.
-/
import Derived.Test.YtepobckhfodngaoGreatWhole
import Derived.Deep.RegionHeld3
namespace Go.Proofs.YtepobckhfodngaoGreat
open Go.ChangeShapes Go.WideShapes Go.ChangeAt Go.RowKit
set_option linter.unusedVariables false

def zM : MMirror := ⟨0, []⟩
/-- v is a slice of mirrors that reads xs -/
def RdMirrorS (w : World) (v : Value) (xs : List MMirror) : Prop :=
  ∃ a cap, v = .slice a xs.length cap ∧ xs.length ≤ maxLen ∧ (xs ≠ [] → ∃ b off, a = some ⟨b, off, none⟩ ∧ b < w.heap.size ∧ ∀ i, i < xs.length → ∃ p c, w.cell? ⟨b, off + i * 2, none⟩ = some (.int .i64 (xs.getD i zM).xQ) ∧ w.cell? ⟨b, off + i * 2 + 1, none⟩ = some (.slice p (xs.getD i zM).xViews.length c) ∧ ReadsM w (.slice p (xs.getD i zM).xViews.length c) (xs.getD i zM).xViews)
theorem RdMirrorS.below {w w' : World} {v : Value} {xs : List MMirror} (h : RdMirrorS w v xs) (hb : Below w.heap.size w w') : RdMirrorS w' v xs := by
  obtain ⟨a, cap, rfl, hm, hr⟩ := h
  refine ⟨a, cap, rfl, hm, fun hx => ?_⟩
  obtain ⟨b, off, rfl, hlt, hc⟩ := hr hx
  refine ⟨b, off, rfl, Nat.lt_of_lt_of_le hlt hb.size, fun i hi => ?_⟩
  obtain ⟨p, c, h0, h1, h2⟩ := hc i hi
  exact ⟨p, c, (hb.cell (p := ⟨b, off + i * 2, none⟩) hlt).trans h0, (hb.cell (p := ⟨b, off + i * 2 + 1, none⟩) hlt).trans h1, h2.below hb⟩
theorem RdMirrorS.shp {w : World} {v : Value} {xs : List MMirror} (h : RdMirrorS w v xs) : ∃ p c, v = .slice p xs.length c := by
  obtain ⟨a, cap, rfl, _⟩ := h
  exact ⟨a, cap, rfl⟩
def smT : List MMirror → Nat
  | [] => 0
  | x :: r => tot x.xViews + smT r
def smC : List MMirror → Nat
  | [] => 0
  | x :: r => 1 + sl x.xViews + smC r
def totMirrorS (xs : List MMirror) : Nat := xs.length + smT xs
def cntMirrorS (xs : List MMirror) : Nat := smC xs
theorem cntMirrorS_le : ∀ xs : List MMirror, cntMirrorS xs ≤ totMirrorS xs
  | [] => Nat.le_refl _
  | x :: r => by
    have h1 := cntMirrorS_le r
    have h2 := tot_eq x.xViews
    unfold cntMirrorS totMirrorS at *
    simp only [smC, smT, List.length_cons]
    omega
theorem smT_take : ∀ (xs : List MMirror) (k : Nat), k < xs.length → smT (xs.take (k + 1)) = smT (xs.take k) + tot (xs.getD k zM).xViews
  | [], k, h => by simp at h
  | x :: r, 0, _ => by simp [smT]
  | x :: r, k + 1, h => by
    have := smT_take r k (by simpa using h)
    simp only [List.take_succ_cons, smT, List.getD_cons_succ, this]
    omega
theorem smT_le : ∀ (xs : List MMirror) (k : Nat), smT (xs.take k) ≤ smT xs
  | [], k => by simp [smT]
  | x :: r, 0 => by simp [smT]
  | x :: r, k + 1 => by have := smT_le r k; simp only [List.take_succ_cons, smT]; omega
theorem smC_take : ∀ (xs : List MMirror) (k : Nat), k < xs.length → smC (xs.take (k + 1)) = smC (xs.take k) + (1 + sl (xs.getD k zM).xViews)
  | [], k, h => by simp at h
  | x :: r, 0, _ => by simp [smC]
  | x :: r, k + 1, h => by
    have := smC_take r k (by simpa using h)
    simp only [List.take_succ_cons, smC, List.getD_cons_succ, this]
    omega
theorem smC_le : ∀ (xs : List MMirror) (k : Nat), smC (xs.take k) ≤ smC xs
  | [], k => by simp [smC]
  | x :: r, 0 => by simp [smC]
  | x :: r, k + 1 => by have := smC_le r k; simp only [List.take_succ_cons, smC]; omega
set_option maxHeartbeats 1000000 in
theorem szMirrorS_at (v : Value) (xs : List MMirror) (left : Int) (w : World) (hv : RdMirrorS w v xs) (h0 : 0 ≤ left) (h' : left ≤ 1048576) :
    Calls Tryz.prog 18 #[v, .int .i64 left] w fun e w' => e = .returned (.int .i64 (szR left (totMirrorS xs))) ∧ Below w.heap.size w w' := by
  obtain ⟨a, cap, rfl, hm, hA⟩ := hv
  unfold maxLen at hm
  have HT : Hid (totMirrorS xs = xs.length + smT xs) := rfl
  by_cases hbig : left < (xs.length : Int)
  · rw [szR_no (by rw [HT.out]; omega)]
    go_enter Tryz.func18, Tryz.ntmps18
    go_wp2
    go_ret
    exact ⟨rfl, Below.refl _ _⟩
  · by_cases hx : xs = []
    · subst hx
      have e : szR left (totMirrorS []) = left := by rw [szR_yes (by simp [totMirrorS, smT]; omega)]; simp [totMirrorS, smT]
      rw [e]
      clear e HT hA hm hbig
      simp only [List.length_nil]
      go_enter Tryz.func18, Tryz.ntmps18
      go_wp2
      refine wp_loop_rounds 1 ?_
      rw [rounds_succ]
      go_wp2
      go_ret
      exact ⟨rfl, Below.refl _ _⟩
    · obtain ⟨g, o, rfl, hlt0, hc⟩ := hA hx
      clear hA
      generalize hn : xs.length = n at *
      have HN : Hid (xs.length = n) := hn
      clear hn
      go_enter Tryz.func18, Tryz.ntmps18
      go_wp2_with fail
      go_loopw [1, 5] (fun l i wr => ∃ k : Nat, k ≤ n ∧ i = .int .i64 k ∧ l = .int .i64 (left - n - (smT (xs.take k) : Nat)) ∧ ((smT (xs.take k) : Nat) : Int) ≤ left - n ∧ Below w.heap.size w wr) (fun _ i _ => n - (intOf i).toNat)
      case atStart => exact ⟨0, Nat.zero_le _, rfl, by simp [smT], by simp [smT]; omega, Below.refl _ _⟩
      case round =>
        obtain ⟨k, hk, rfl, rfl, hle, B⟩ := hrel
        by_cases hlt : k < n
        · obtain ⟨p, c, c0, c1, hr⟩ := hc k hlt
          have c0' := (B.cell (p := ⟨g, o + k * 2, none⟩) hlt0).trans c0
          have c1' := (B.cell (p := ⟨g, o + k * 2 + 1, none⟩) hlt0).trans c1
          have hr' := hr.below B
          have HS : Hid (smT (xs.take (k + 1)) = smT (xs.take k) + tot (xs.getD k zM).xViews) := smT_take xs k (by rw [HN.out]; exact hlt)
          have HL : Hid (smT (xs.take (k + 1)) ≤ smT xs) := smT_le xs (k + 1)
          clear hr hc c0 c1
          generalize xs.getD k zM = x at *
          have HRD : Hid (RdMirror wr (.agg #[.int .i64 x.xQ, .slice p x.xViews.length c]) x) := ⟨p, c, rfl, hr'⟩
          have HTM : Hid (totMirror x = tot x.xViews) := rfl
          clear hr'
          generalize smT (xs.take k) = s at *
          have hi : (k : Int) < (n : Int) := by omega
          by_cases hfit : ((tot x.xViews : Nat) : Int) ≤ left - n - s
          · go_wp2_with fail
            refine (szMirror_fit _ x _ _ (by exact HRD.out) (by omega) (by omega) (by rw [HTM.out]; exact hfit)).mono ?_
            rintro e w' ⟨rfl, hb⟩
            rw [HTM.out]
            go_wp2
            go_roundw
            case rel => exact ⟨k + 1, by omega, by go_num, by rw [HS.out]; go_num, by rw [HS.out]; omega, B.trans (hb.mono B.size)⟩
            case measure => simp [intOf]; omega
          · have hno : szR left (totMirrorS xs) = -1 := szR_no (by have := HT.out; have := HS.out; have := HL.out; omega)
            have HNO : Hid (szR left (totMirrorS xs) = -1) := hno
            clear hno
            go_wp2_with fail
            refine (szMirror_over _ x _ _ (by exact HRD.out) (by omega) (by omega) (by rw [HTM.out]; omega)).mono ?_
            rintro e w' ⟨rfl, hb⟩
            go_wp2
            go_ret
            exact ⟨by rw [HNO.out]; rfl, B.trans (hb.mono B.size)⟩
        · obtain rfl : k = n := by omega
          have hall : xs.take k = xs := List.take_of_length_le (by rw [HN.out]; omega)
          rw [hall] at hle ⊢
          have HNO : Hid (szR left (totMirrorS xs) = left - k - (smT xs : Nat)) := by
            show _ = _
            rw [szR_yes (by have := HT.out; omega), HT.out]
            omega
          clear hc hall
          go_wp2
          go_ret
          exact ⟨by rw [HNO.out]; rfl, B⟩
theorem szMirrorS_fit (v : Value) (x : List MMirror) (left : Int) (w : World) (hv : RdMirrorS w v x) (h0 : 0 ≤ left) (h' : left ≤ 1048576) (h : (totMirrorS x : Int) ≤ left) :
    Calls Tryz.prog 18 #[v, .int .i64 left] w fun e w' => e = .returned (.int .i64 (left - (totMirrorS x : Nat))) ∧ Below w.heap.size w w' := by
  rw [← szR_yes h]; exact szMirrorS_at v x left w hv h0 h'
theorem szMirrorS_over (v : Value) (x : List MMirror) (left : Int) (w : World) (hv : RdMirrorS w v x) (h0 : 0 ≤ left) (h' : left ≤ 1048576) (h : left < (totMirrorS x : Int)) :
    Calls Tryz.prog 18 #[v, .int .i64 left] w fun e w' => e = .returned (.int .i64 (-1)) ∧ Below w.heap.size w w' := by
  rw [← szR_no h]; exact szMirrorS_at v x left w hv h0 h'

/-- the slices us own the views of the mirrors xs, the i-th in the blocks bi[i] -/
def MsR (w : World) : List Value → List MMirror → List (List Nat) → Prop
  | [], [], [] => True
  | u :: us, x :: xs, b :: bi => Mat w u x.xViews b ∧ MsR w us xs bi
  | _, _, _ => False
/-- the cells of mirrors -/
def msC : List Value → List MMirror → List Value
  | u :: us, x :: xs => .int .i64 x.xQ :: u :: msC us xs
  | _, _ => []
theorem MsR.frame {w w' : World} : ∀ {us : List Value} {xs : List MMirror} {bi : List (List Nat)}, MsR w us xs bi → (∀ g ∈ bi.flatten, w'.heap[g]? = w.heap[g]?) → MsR w' us xs bi
  | [], [], [], _, _ => trivial
  | u :: us, x :: xs, b :: bi, h, k => ⟨h.1.frame (fun g hg => k g (by simp [hg])), MsR.frame h.2 (fun g hg => k g (by simp at hg ⊢; exact .inr hg))⟩
theorem MsR.lt {w : World} : ∀ {us : List Value} {xs : List MMirror} {bi : List (List Nat)}, MsR w us xs bi → ∀ g ∈ bi.flatten, g < w.heap.size
  | [], [], [], _, g, hg => by simp at hg
  | u :: us, x :: xs, b :: bi, h, g, hg => by
    rw [List.flatten_cons, List.mem_append] at hg
    rcases hg with hg | hg
    · exact h.1.lt g hg
    · exact MsR.lt h.2 g hg
theorem MsR.keep {w w' : World} {us : List Value} {xs : List MMirror} {bi : List (List Nat)} (h : MsR w us xs bi) (hb : Below w.heap.size w w') : MsR w' us xs bi := h.frame fun g hg => hb.block g (h.lt g hg)
theorem MsR.off {w w' : World} {cs : List Nat} {us : List Value} {xs : List MMirror} {bi : List (List Nat)} (h : MsR w us xs bi) (hb : Off cs w w') (k : ∀ g ∈ bi.flatten, g ∉ cs) : MsR w' us xs bi := h.frame fun g hg => hb.block g (h.lt g hg) (k g hg)
theorem MsR.len {w : World} : ∀ {us : List Value} {xs : List MMirror} {bi : List (List Nat)}, MsR w us xs bi → us.length = xs.length ∧ bi.length = xs.length
  | [], [], [], _ => ⟨rfl, rfl⟩
  | u :: us, x :: xs, b :: bi, h => by have := MsR.len h.2; simp [this]
theorem MsR.snoc {w : World} : ∀ {us : List Value} {xs : List MMirror} {bi : List (List Nat)} {u : Value} {x : MMirror} {b : List Nat}, MsR w us xs bi → Mat w u x.xViews b → MsR w (us ++ [u]) (xs ++ [x]) (bi ++ [b])
  | [], [], [], _, _, _, _, k => ⟨k, trivial⟩
  | u :: us, x :: xs, b :: bi, _, _, _, h, k => ⟨h.1, MsR.snoc h.2 k⟩
theorem MsR.get {w : World} : ∀ {us : List Value} {xs : List MMirror} {bi : List (List Nat)}, MsR w us xs bi → ∀ i (hi : i < xs.length), ∃ u b, us[i]? = some u ∧ bi[i]? = some b ∧ Mat w u (xs.getD i zM).xViews b
  | [], [], [], _, i, hi => by simp at hi
  | u :: us, x :: xs, b :: bi, h, 0, _ => ⟨u, b, rfl, rfl, h.1⟩
  | u :: us, x :: xs, b :: bi, h, i + 1, hi => by
    obtain ⟨v', b', h1, h2, h3⟩ := MsR.get h.2 i (by simpa using hi)
    exact ⟨v', b', by simpa using h1, by simpa using h2, by simpa using h3⟩
theorem msC_len : ∀ {us : List Value} {xs : List MMirror}, us.length = xs.length → (msC us xs).length = xs.length * 2
  | [], [], _ => rfl
  | u :: us, x :: xs, h => by
    have := msC_len (us := us) (xs := xs) (by simpa using h)
    simp [msC, this]
    omega
theorem msC_snoc : ∀ {us : List Value} {xs : List MMirror} (u : Value) (x : MMirror), us.length = xs.length → msC (us ++ [u]) (xs ++ [x]) = msC us xs ++ [.int .i64 x.xQ, u]
  | [], [], _, _, _ => rfl
  | v :: us, y :: xs, u, x, h => by
    have := msC_snoc (us := us) (xs := xs) u x (by simpa using h)
    simp [msC, this]
theorem msC_get : ∀ {us : List Value} {xs : List MMirror}, us.length = xs.length → ∀ i, i < xs.length → (msC us xs)[i * 2]? = some (.int .i64 (xs.getD i zM).xQ) ∧ (msC us xs)[i * 2 + 1]? = us[i]?
  | [], [], _, i, hi => by simp at hi
  | u :: us, x :: xs, h, 0, _ => by simp [msC]
  | u :: us, x :: xs, h, i + 1, hi => by
    have := msC_get (us := us) (xs := xs) (by simpa using h) i (by simpa using hi)
    rw [show (i + 1) * 2 = i * 2 + 1 + 1 by omega]
    simpa [msC] using this
/-- v owns the mirrors xs, in the blocks bs, no two of which are the same -/
def OwMirrorS (w : World) (v : Value) (xs : List MMirror) (bs : List Nat) : Prop :=
  ∃ us bo bi, Own w 36 2 v xs.length (msC us xs) bo ∧ MsR w us xs bi ∧ bs = bo ++ bi.flatten ∧ bs.Nodup
theorem OwMirrorS.lt {w : World} {v : Value} {xs : List MMirror} {bs : List Nat} (h : OwMirrorS w v xs bs) : ∀ g ∈ bs, g < w.heap.size := by
  obtain ⟨us, bo, bi, h1, h2, rfl, _⟩ := h
  intro g hg
  rw [List.mem_append] at hg
  rcases hg with hg | hg
  · exact Own.lt h1 g hg
  · exact h2.lt g hg
theorem OwMirrorS.frame {w w' : World} {v : Value} {xs : List MMirror} {bs : List Nat} (h : OwMirrorS w v xs bs) (k : ∀ g ∈ bs, w'.heap[g]? = w.heap[g]?) : OwMirrorS w' v xs bs := by
  obtain ⟨us, bo, bi, h1, h2, rfl, h3⟩ := h
  exact ⟨us, bo, bi, h1.frame (fun g hg => k g (by simp [hg])), h2.frame (fun g hg => k g (List.mem_append.2 (.inr hg))), rfl, h3⟩
theorem OwMirrorS.keep {w w' : World} {v : Value} {xs : List MMirror} {bs : List Nat} (h : OwMirrorS w v xs bs) (hb : Below w.heap.size w w') : OwMirrorS w' v xs bs := h.frame fun g hg => hb.block g (h.lt g hg)
theorem OwMirrorS.off {w w' : World} {cs : List Nat} {v : Value} {xs : List MMirror} {bs : List Nat} (h : OwMirrorS w v xs bs) (hb : Off cs w w') (k : ∀ g ∈ bs, g ∉ cs) : OwMirrorS w' v xs bs := h.frame fun g hg => hb.block g (h.lt g hg) (k g hg)
theorem OwMirrorS.alloc {w : World} {v : Value} {xs : List MMirror} {bs : List Nat} (h : OwMirrorS w v xs bs) (o : Obj) : OwMirrorS (w.alloc o) v xs bs := h.keep ((Below.refl _ _).alloc (Nat.le_refl _) _)
theorem OwMirrorS.drew {w : World} {v : Value} {xs : List MMirror} {bs : List Nat} (h : OwMirrorS w v xs bs) : OwMirrorS w.drew v xs bs := h.keep (Below.refl _ _).drew
theorem OwMirrorS.nil (w : World) : OwMirrorS w (.slice none 0 0) [] [] := ⟨[], [], [], ⟨rfl, .inl ⟨rfl, rfl, rfl⟩⟩, trivial, rfl, List.nodup_nil⟩
theorem OwMirrorS.value {w : World} {v : Value} {xs : List MMirror} {bs : List Nat} (h : OwMirrorS w v xs bs) : ∃ a cap, v = .slice a xs.length cap := by
  obtain ⟨us, bo, bi, h1, _⟩ := h
  exact Own.value h1
theorem OwMirrorS.reads {w : World} {v : Value} {xs : List MMirror} {bs : List Nat} (h : OwMirrorS w v xs bs) : RdMirrorS w v xs := by
  obtain ⟨us, bo, bi, h1, h2, _, _⟩ := h
  obtain ⟨a, cap, hv⟩ := Own.value h1
  refine ⟨a, cap, hv, Own.le h1, fun hx => ?_⟩
  obtain ⟨g, c, hbs, hv', _, _⟩ := Own.shape h1 (List.length_pos_iff.2 hx)
  have hl := Own.lt h1
  subst hv'
  simp at hv
  obtain ⟨rfl, rfl⟩ := hv
  refine ⟨g, 0, rfl, hl g (by rw [hbs]; simp), fun i hi => ?_⟩
  obtain ⟨u, b, e1, _, k⟩ := h2.get i hi
  obtain ⟨p, c', rfl⟩ := Mat.value k
  have hm := msC_get h2.len.1 i hi
  refine ⟨p, c', ?_, ?_, k.reads⟩
  · rw [Nat.zero_add, Own.cell h1 (i * 2) (by omega)]
    exact hm.1
  · rw [Nat.zero_add, Own.cell h1 (i * 2 + 1) (by omega), hm.2]
    exact e1

theorem Tryz.infoM : (Tryz.prog.info? 36).map (fun i => (i.zero, i.size, i.bytes)) = some (some (.agg #[.int .i64 0, .slice none 0 0]), 2, 32) := by kernel_rfl
theorem ms_set (A zs : List Value) (n k : Nat) (a b : Value) (hA : A.length = k * 2) (hz : zs.length = n * 2) (hk : k < n) : ((A ++ zs.drop (k * 2)).set (k * 2) a).set (k * 2 + 1) b = (A ++ [a, b]) ++ zs.drop ((k + 1) * 2) := by
  have hd : zs.drop (k * 2) = zs[k * 2]'(by omega) :: zs[k * 2 + 1]'(by omega) :: zs.drop ((k + 1) * 2) := by
    rw [List.drop_eq_getElem_cons (by omega), List.drop_eq_getElem_cons (show k * 2 + 1 < zs.length by omega), show k * 2 + 1 + 1 = (k + 1) * 2 by omega]
  rw [hd, List.set_append_right _ _ (by omega), hA, Nat.sub_self, List.set_cons_zero, List.set_append_right _ _ (by omega), hA, show k * 2 + 1 - k * 2 = 1 by omega]
  simp
set_option maxHeartbeats 2000000 in
theorem toMirrorS_ow (v : Value) (xs : List MMirror) (w : World) (hv : RdMirrorS w v xs) (hl : totMirrorS xs ≤ 1048576) :
    Calls Tryz.prog 20 #[v] w fun e w' => ∃ u b0, e = .returned u ∧ OwMirrorS w' u xs b0 ∧ (∀ y ∈ b0, w.heap.size ≤ y) ∧ Below w.heap.size w w' := by
  obtain ⟨i0, hi, hz0, hz1, hz2⟩ := info_parts Tryz.infoM
  obtain ⟨a, ca, rfl, hm, hA⟩ := hv
  have HT : Hid (totMirrorS xs = xs.length + smT xs ∧ totMirrorS xs ≤ 1048576) := ⟨rfl, hl⟩
  have hn0 : xs.length ≤ 1048576 := by have := HT.out; omega
  clear hl
  generalize hn : xs.length = n at *
  have HN : Hid (xs.length = n) := hn
  clear hn
  go_enter Tryz.func20, Tryz.ntmps20
  go_wp2_with (at_make; refine wpList_make_full _ rfl _ _ 56 rfl w.heap.size 36 i0 (.agg #[.int .i64 0, .slice none 0 0]) 2 Tryz.underlying56 hi hz0 hz1 _ _ _ _ n rfl rfl rfl rfl (by rw [hz2]; omega) hm (Nat.le_refl _) ?_)
  intro w1 hown hgrow
  have hb1 : Below w.heap.size w w1 := (Below.refl _ _).grown hgrow (Nat.le_refl _) (fun k hk => by cases hk)
  have hzl : (madeCells #[.int .i64 0, .slice none 0 0] (n * 2)).toList.length = n * 2 := by rw [Array.length_toList, size_madeCells]
  generalize (madeCells #[.int .i64 0, .slice none 0 0] (n * 2)).toList = zs at *
  have HZL : Hid (zs.length = n * 2) := hzl
  clear hzl
  have hown1 : Own w1 36 2 (.slice (some ⟨w.heap.size, 0, none⟩) n n) n zs [w.heap.size] := by
    obtain ⟨bs, h1, h2⟩ := Own.of_owns hown
    have hbs : bs = [w.heap.size] := by
      rcases h1.2 with ⟨k, _⟩ | ⟨g', cap', cur, rfl, k, _⟩
      · cases k
      · simp at k; rw [k.1]
    rw [hbs] at h1
    exact h1
  clear hown hgrow
  by_cases hx : n = 0
  · subst hx
    have hx : xs = [] := List.eq_nil_of_length_eq_zero HN.out
    subst hx
    have hzs : zs = [] := List.eq_nil_of_length_eq_zero HZL.out
    subst hzs
    go_wp2
    refine wp_loop_rounds 1 ?_
    rw [rounds_succ]
    go_wp2
    go_ret
    exact ⟨_, [w.heap.size], rfl, ⟨[], [w.heap.size], [], hown1, trivial, rfl, by simp⟩, by simp, hb1⟩
  · obtain ⟨b, o, rfl, hlt0, cA⟩ := hA (by intro h; have := HN.out; rw [h] at this; simp at this; omega)
    clear hA
    have hnb : b ≠ w.heap.size := by omega
    go_wp2
    go_loopw [4] (fun i wr => ∃ k : Nat, ∃ us : List Value, ∃ bi : List (List Nat), k ≤ n ∧ i = .int .i64 k ∧ Own wr 36 2 (.slice (some ⟨w.heap.size, 0, none⟩) n n) n (msC us (xs.take k) ++ zs.drop (k * 2)) [w.heap.size] ∧ MsR wr us (xs.take k) bi ∧ (w.heap.size :: bi.flatten).Nodup ∧ (∀ x ∈ bi.flatten, w.heap.size < x) ∧ Below w.heap.size w wr) (fun i _ => n - (intOf i).toNat)
    case atStart => exact ⟨0, [], [], Nat.zero_le _, rfl, by simpa [msC] using hown1, trivial, by simp, by simp, hb1⟩
    case round =>
      clear hb1 hown1
      obtain ⟨k, us, bi, hk, rfl, hown, hrows, hnd, hgt, hbel⟩ := hrel
      by_cases hlt : k < n
      · obtain ⟨p, c, c0, c1, hr⟩ := cA k hlt
        have c0' := (hbel.cell (p := ⟨b, o + k * 2, none⟩) hlt0).trans c0
        have c1' := (hbel.cell (p := ⟨b, o + k * 2 + 1, none⟩) hlt0).trans c1
        have hr' := hr.below hbel
        have hlen := hrows.len
        have htk : (xs.take k).length = k := by rw [List.length_take, HN.out]; omega
        have HML : Hid ((msC us (xs.take k)).length = k * 2) := by show _ = _; rw [msC_len hlen.1, htk]
        have HXK : Hid (xs.take (k + 1) = xs.take k ++ [xs.getD k zM]) := by
          show _ = _
          rw [List.take_succ_eq_append_getElem (by rw [HN.out]; exact hlt)]
          simp [HN.out, hlt]
        have HMS : Hid (∀ u, msC (us ++ [u]) (xs.take k ++ [xs.getD k zM]) = msC us (xs.take k) ++ [.int .i64 (xs.getD k zM).xQ, u]) := fun u => msC_snoc u _ hlen.1
        have HTX : Hid (totMirror (xs.getD k zM) ≤ 1048576) := by
          show _ ≤ _
          have h1 := smT_take xs k (by rw [HN.out]; exact hlt)
          have h2 := smT_le xs (k + 1)
          have := HT.out
          unfold totMirror
          omega
        have hi : (k : Int) < (n : Int) := by omega
        clear cA c0 c1 hr hlen htk
        generalize xs.getD k zM = x at *
        have HRD : Hid (RdMirror wr (.agg #[.int .i64 x.xQ, .slice p x.xViews.length c]) x) := ⟨p, c, rfl, hr'⟩
        clear hr'
        go_wp2_with fail
        refine (toMirror_ow _ x _ (by exact HRD.out) HTX.out).mono ?_
        rintro e w2 ⟨u, b2, rfl, ih, hh, hb2⟩
        obtain ⟨p2, c2, rfl, hM⟩ := ih
        have hown2 := Own.keep hown hb2
        have hrows2 := hrows.keep hb2
        have hlt2 := hrows.lt
        have hg1 : w.heap.size < wr.heap.size := Own.lt hown _ (by simp)
        have d0 : ∃ u, w2.cell? ⟨w.heap.size, k * 2, none⟩ = some u := ⟨_, (Own.cell hown2 (k * 2) (by omega)).trans (List.getElem?_eq_getElem (by rw [List.length_append, HML.out, List.length_drop, HZL.out]; omega))⟩
        have d1 : ∃ u, w2.cell? ⟨w.heap.size, k * 2 + 1, none⟩ = some u := ⟨_, (Own.cell hown2 (k * 2 + 1) (by omega)).trans (List.getElem?_eq_getElem (by rw [List.length_append, HML.out, List.length_drop, HZL.out]; omega))⟩
        obtain ⟨u0, d0⟩ := d0
        obtain ⟨u1, d1⟩ := d1
        have f0 : w2.frozen? ⟨w.heap.size, k * 2, none⟩ = false := Own.frozen hown2 (k * 2)
        have f1 : w2.frozen? ⟨w.heap.size, k * 2 + 1, none⟩ = false := Own.frozen hown2 (k * 2 + 1)
        have hset := Own.set (Own.set hown2 (k * 2) (.int .i64 x.xQ)) (k * 2 + 1) (.slice p2 x.xViews.length c2)
        rw [ms_set _ zs n k _ _ HML.out HZL.out hlt, ← HMS.out, ← HXK.out] at hset
        have hoff : Off [w.heap.size] w2 ((w2.setCell ⟨w.heap.size, k * 2, none⟩ (.int .i64 x.xQ)).setCell ⟨w.heap.size, k * 2 + 1, none⟩ (.slice p2 x.xViews.length c2)) := ((Off.refl _ _).setCell _ _ (by simp)).setCell _ _ (by simp)
        have hb3 := (bcall hbel hb2 hbel.size).trans (hoff.toBelow (by have := (bcall hbel hb2 hbel.size).size; omega) (by simp))
        have hrow3 := (hrows2.off hoff (fun g hg hm => by have := hgt g hg; simp at hm; omega)).snoc (hM.off hoff (fun g hg hm => by have := hh g hg; simp at hm; omega))
        rw [← HXK.out] at hrow3
        have hnd2 : b2.Nodup := by obtain ⟨_, _, _, _, _, _, h⟩ := hM; exact h
        have hnd3 : (w.heap.size :: (bi ++ [b2]).flatten).Nodup := by
          simp only [List.flatten_append, List.flatten_cons, List.flatten_nil, List.append_nil]
          rw [← List.cons_append]
          refine List.nodup_append.2 ⟨hnd, hnd2, ?_⟩
          intro x hx y hy e
          subst e
          have := hh x hy
          rcases List.mem_cons.1 hx with rfl | hx
          · omega
          · have := hlt2 x hx; omega
        have hgt3 : ∀ x ∈ (bi ++ [b2]).flatten, w.heap.size < x := by
          intro x hx
          simp only [List.flatten_append, List.flatten_cons, List.flatten_nil, List.append_nil, List.mem_append] at hx
          rcases hx with hx | hx
          · exact hgt x hx
          · have := hh x hx; omega
        clear hown hown2 hrows hrows2 hM hbel hb2 c0' c1' hnd hgt hlt2 hoff hh
        go_wp2
        go_roundw
        case rel => exact ⟨k + 1, _, _, by omega, by go_num, hset, hrow3, hnd3, hgt3, hb3⟩
        case measure => simp [intOf]; omega
      · obtain rfl : k = n := by omega
        have e : xs.take k = xs := List.take_of_length_le (by rw [HN.out]; omega)
        have e2 : zs.drop (k * 2) = [] := List.drop_eq_nil_of_le (by rw [HZL.out]; omega)
        rw [e] at hrows hown
        rw [e2, List.append_nil] at hown
        go_wp2
        go_ret
        refine ⟨_, w.heap.size :: bi.flatten, rfl, ⟨us, [w.heap.size], bi, by rw [HN.out]; exact hown, hrows, rfl, hnd⟩, ?_, hbel⟩
        intro x hx
        rcases List.mem_cons.1 hx with rfl | hx
        · exact Nat.le_refl _
        · exact Nat.le_of_lt (hgt x hx)
end Go.Proofs.YtepobckhfodngaoGreat
