/-
  Lists of lists of whole numbers in memory: owned, each list in a block of its own; read; and the laws' helpers on them: sizes, copying, comparing, marking, holding.
-/
import Derived.Test.YtepobckhfodngaoGreatEq
import Derived.Deep.RegionHeld3
namespace Go.Proofs.YtepobckhfodngaoGreat
open Go.ChangeShapes Go.WideShapes Go.ChangeAt Go.RowKit
set_option linter.unusedVariables false

/-- the slices vs own the lists xss, the i-th in the blocks bi[i] -/
def Rows (w : World) : List Value → List (List Int) → List (List Nat) → Prop
  | [], [], [] => True
  | v :: vs, xs :: xss, b :: bi => Ints w v xs b ∧ Rows w vs xss bi
  | _, _, _ => False

theorem Rows.frame {w w' : World} : ∀ {vs : List Value} {xss : List (List Int)} {bi : List (List Nat)}, Rows w vs xss bi → (∀ g ∈ bi.flatten, w'.heap[g]? = w.heap[g]?) → Rows w' vs xss bi
  | [], [], [], _, _ => trivial
  | v :: vs, xs :: xss, b :: bi, h, k => ⟨Ints.frame h.1 (fun g hg => k g (by simp [hg])), Rows.frame h.2 (fun g hg => k g (by simp at hg ⊢; exact .inr hg))⟩
theorem Rows.lt {w : World} : ∀ {vs : List Value} {xss : List (List Int)} {bi : List (List Nat)}, Rows w vs xss bi → ∀ g ∈ bi.flatten, g < w.heap.size
  | [], [], [], _, g, hg => by simp at hg
  | v :: vs, xs :: xss, b :: bi, h, g, hg => by
    rw [List.flatten_cons, List.mem_append] at hg
    rcases hg with hg | hg
    · exact Ints.lt h.1 g hg
    · exact Rows.lt h.2 g hg
theorem Rows.keep {w w' : World} {vs : List Value} {xss : List (List Int)} {bi : List (List Nat)} (h : Rows w vs xss bi) (hb : Below w.heap.size w w') : Rows w' vs xss bi := h.frame fun g hg => hb.block g (h.lt g hg)
theorem Rows.off {w w' : World} {cs : List Nat} {vs : List Value} {xss : List (List Int)} {bi : List (List Nat)} (h : Rows w vs xss bi) (hb : Off cs w w') (k : ∀ g ∈ bi.flatten, g ∉ cs) : Rows w' vs xss bi := h.frame fun g hg => hb.block g (h.lt g hg) (k g hg)
theorem Rows.len {w : World} : ∀ {vs : List Value} {xss : List (List Int)} {bi : List (List Nat)}, Rows w vs xss bi → vs.length = xss.length ∧ bi.length = xss.length
  | [], [], [], _ => ⟨rfl, rfl⟩
  | v :: vs, xs :: xss, b :: bi, h => by have := Rows.len h.2; simp [this]
theorem Rows.snoc {w : World} : ∀ {vs : List Value} {xss : List (List Int)} {bi : List (List Nat)} {v : Value} {xs : List Int} {b : List Nat}, Rows w vs xss bi → Ints w v xs b → Rows w (vs ++ [v]) (xss ++ [xs]) (bi ++ [b])
  | [], [], [], _, _, _, _, k => ⟨k, trivial⟩
  | v :: vs, xs :: xss, b :: bi, _, _, _, h, k => ⟨h.1, Rows.snoc h.2 k⟩
theorem Rows.get {w : World} : ∀ {vs : List Value} {xss : List (List Int)} {bi : List (List Nat)}, Rows w vs xss bi → ∀ i (hi : i < xss.length), ∃ v b, vs[i]? = some v ∧ bi[i]? = some b ∧ Ints w v (xss.getD i []) b
  | [], [], [], _, i, hi => by simp at hi
  | v :: vs, xs :: xss, b :: bi, h, 0, _ => ⟨v, b, rfl, rfl, h.1⟩
  | v :: vs, xs :: xss, b :: bi, h, i + 1, hi => by
    obtain ⟨v', b', h1, h2, h3⟩ := Rows.get h.2 i (by simpa using hi)
    exact ⟨v', b', by simpa using h1, by simpa using h2, by simpa using h3⟩

/-- v owns the lists xss, in the blocks bs, no two of which are the same -/
def Mat (w : World) (v : Value) (xss : List (List Int)) (bs : List Nat) : Prop :=
  ∃ vs bo bi, Own w 25 1 v xss.length vs bo ∧ Rows w vs xss bi ∧ bs = bo ++ bi.flatten ∧ bs.Nodup
theorem Mat.lt {w : World} {v : Value} {xss : List (List Int)} {bs : List Nat} (h : Mat w v xss bs) : ∀ g ∈ bs, g < w.heap.size := by
  obtain ⟨vs, bo, bi, h1, h2, rfl, _⟩ := h
  intro g hg
  rw [List.mem_append] at hg
  rcases hg with hg | hg
  · exact Own.lt h1 g hg
  · exact h2.lt g hg
theorem Mat.frame {w w' : World} {v : Value} {xss : List (List Int)} {bs : List Nat} (h : Mat w v xss bs) (k : ∀ g ∈ bs, w'.heap[g]? = w.heap[g]?) : Mat w' v xss bs := by
  obtain ⟨vs, bo, bi, h1, h2, rfl, h3⟩ := h
  exact ⟨vs, bo, bi, h1.frame (fun g hg => k g (by simp [hg])), h2.frame (fun g hg => k g (List.mem_append.2 (.inr hg))), rfl, h3⟩
theorem Mat.keep {w w' : World} {v : Value} {xss : List (List Int)} {bs : List Nat} (h : Mat w v xss bs) (hb : Below w.heap.size w w') : Mat w' v xss bs := h.frame fun g hg => hb.block g (h.lt g hg)
theorem Mat.off {w w' : World} {cs : List Nat} {v : Value} {xss : List (List Int)} {bs : List Nat} (h : Mat w v xss bs) (hb : Off cs w w') (k : ∀ g ∈ bs, g ∉ cs) : Mat w' v xss bs := h.frame fun g hg => hb.block g (h.lt g hg) (k g hg)
theorem Mat.alloc {w : World} {v : Value} {xss : List (List Int)} {bs : List Nat} (h : Mat w v xss bs) (o : Obj) : Mat (w.alloc o) v xss bs := h.keep ((Below.refl _ _).alloc (Nat.le_refl _) _)
theorem Mat.nil (w : World) : Mat w (.slice none 0 0) [] [] := ⟨[], [], [], ⟨rfl, .inl ⟨rfl, rfl, rfl⟩⟩, trivial, rfl, List.nodup_nil⟩
theorem Mat.value {w : World} {v : Value} {xss : List (List Int)} {bs : List Nat} (h : Mat w v xss bs) : ∃ a cap, v = .slice a xss.length cap := by
  obtain ⟨vs, bo, bi, h1, _⟩ := h
  exact Own.value h1

/-- v is a slice of slices that reads the lists xss -/
def ReadsM (w : World) (v : Value) (xss : List (List Int)) : Prop :=
  ∃ a cap, v = .slice a xss.length cap ∧ xss.length ≤ maxLen ∧ (xss ≠ [] → ∃ b off, a = some ⟨b, off, none⟩ ∧ b < w.heap.size ∧ ∀ i, i < xss.length → ∃ p c, w.cell? ⟨b, off + i, none⟩ = some (.slice p (xss.getD i []).length c) ∧ Reads w .i64 (.slice p (xss.getD i []).length c) (xss.getD i []))
theorem ReadsM.below {w w' : World} {v : Value} {xss : List (List Int)} (h : ReadsM w v xss) (hb : Below w.heap.size w w') : ReadsM w' v xss := by
  obtain ⟨a, cap, rfl, hm, hr⟩ := h
  refine ⟨a, cap, rfl, hm, fun hx => ?_⟩
  obtain ⟨b, off, rfl, hlt, hc⟩ := hr hx
  refine ⟨b, off, rfl, Nat.lt_of_lt_of_le hlt hb.size, fun i hi => ?_⟩
  obtain ⟨p, c, h1, h2⟩ := hc i hi
  exact ⟨p, c, (hb.cell (p := ⟨b, off + i, none⟩) hlt).trans h1, h2.below hb⟩
theorem Mat.reads {w : World} {v : Value} {xss : List (List Int)} {bs : List Nat} (h : Mat w v xss bs) : ReadsM w v xss := by
  obtain ⟨vs, bo, bi, h1, h2, _, _⟩ := h
  obtain ⟨a, cap, hv⟩ := Own.value h1
  refine ⟨a, cap, hv, Own.le h1, fun hx => ?_⟩
  obtain ⟨g, c, hbs, hv', _, _⟩ := Own.shape h1 (List.length_pos_iff.2 hx)
  have hl := Own.lt h1
  subst hv'
  simp at hv
  obtain ⟨rfl, rfl⟩ := hv
  refine ⟨g, 0, rfl, hl g (by rw [hbs]; simp), fun i hi => ?_⟩
  obtain ⟨u, b, e1, _, k⟩ := h2.get i hi
  obtain ⟨p, c', rfl⟩ := Ints.value k
  refine ⟨p, c', ?_, Ints.reads k⟩
  rw [Nat.zero_add, Own.cell h1 i (by omega)]
  exact e1

/-- how many there are, lists and numbers -/
def tot : List (List Int) → Nat
  | [] => 0
  | xs :: r => xs.length + 1 + tot r
theorem szInt64S_yes (a : Option Addr) (n cap : Nat) (left : Int) (w : World) (h : (n : Int) ≤ left) (h' : left ≤ 1048576) : Calls Tryz.prog 28 #[.slice a n cap, .int .i64 left] w fun e w' => e = .returned (.int .i64 (left - n)) ∧ w = w' := by
  go_enter Tryz.func28, Tryz.ntmps28
  go_wp2
  go_ret
  exact ⟨rfl, rfl⟩
theorem szInt64S_no (a : Option Addr) (n cap : Nat) (left : Int) (w : World) (hn : n ≤ maxLen) (h : left < (n : Int)) (h0 : 0 ≤ left) (h' : left ≤ 1048576) : Calls Tryz.prog 28 #[.slice a n cap, .int .i64 left] w fun e w' => e = .returned (.int .i64 (-1)) ∧ w = w' := by
  unfold maxLen at hn
  go_enter Tryz.func28, Tryz.ntmps28
  go_wp2
  go_ret
  exact ⟨rfl, rfl⟩

def sl : List (List Int) → Nat
  | [] => 0
  | xs :: r => xs.length + sl r
theorem tot_eq : ∀ xss : List (List Int), tot xss = xss.length + sl xss
  | [] => rfl
  | xs :: r => by simp only [tot, sl, tot_eq r, List.length_cons]; omega
theorem sl_append : ∀ a b : List (List Int), sl (a ++ b) = sl a + sl b
  | [], b => by simp [sl]
  | x :: a, b => by simp only [List.cons_append, sl, sl_append a b]; omega
theorem sl_take (xss : List (List Int)) (k : Nat) (h : k < xss.length) : sl (xss.take (k + 1)) = sl (xss.take k) + (xss.getD k []).length := by
  rw [List.take_succ_eq_append_getElem h, sl_append]
  simp [sl, h]
theorem sl_le (xss : List (List Int)) (k : Nat) : sl (xss.take k) ≤ sl xss := by
  have := sl_append (xss.take k) (xss.drop k)
  rw [List.take_append_drop] at this
  omega
theorem row_le (xss : List (List Int)) (k : Nat) (h : k < xss.length) : (xss.getD k []).length ≤ sl xss := by
  have h1 := sl_take xss k h
  have h2 := sl_le xss (k + 1)
  omega
/-- what is left of a size -/
def szR (left : Int) (n : Nat) : Int := if (n : Int) ≤ left then left - n else -1
theorem szR_yes {left : Int} {n : Nat} (h : (n : Int) ≤ left) : szR left n = left - n := if_pos h
theorem szR_no {left : Int} {n : Nat} (h : left < (n : Int)) : szR left n = -1 := if_neg (by omega)
set_option maxHeartbeats 800000 in
theorem szInt64SS_at (v : Value) (xss : List (List Int)) (left : Int) (w : World) (hv : ReadsM w v xss) (h0 : 0 ≤ left) (h' : left ≤ 1048576) :
    Calls Tryz.prog 29 #[v, .int .i64 left] w fun e w' => e = .returned (.int .i64 (szR left (tot xss))) ∧ w = w' := by
  obtain ⟨a, cap, rfl, hm, hA⟩ := hv
  unfold maxLen at hm
  have ht := tot_eq xss
  by_cases hbig : left < (xss.length : Int)
  · rw [szR_no (by omega)]
    go_enter Tryz.func29, Tryz.ntmps29
    go_wp2
    go_ret
    exact ⟨rfl, rfl⟩
  · by_cases hx : xss = []
    · subst hx
      have e : szR left (tot []) = left := by rw [szR_yes (by simp [tot]; omega)]; simp [tot]
      rw [e]
      clear e ht hA hm hbig
      simp only [List.length_nil]
      go_enter Tryz.func29, Tryz.ntmps29
      go_wp2
      refine wp_loop_rounds 1 ?_
      rw [rounds_succ]
      go_wp2
      go_ret
      exact ⟨rfl, rfl⟩
    · obtain ⟨g, o, rfl, hlt0, hc⟩ := hA hx
      clear hA
      have HT : Hid (tot xss = xss.length + sl xss) := ht
      clear ht
      generalize hn : xss.length = n at *
      go_enter Tryz.func29, Tryz.ntmps29
      go_wp2_with fail
      go_loop [1, 5] (fun l i => ∃ k : Nat, k ≤ n ∧ i = .int .i64 k ∧ l = .int .i64 (left - n - (sl (xss.take k) : Nat)) ∧ ((sl (xss.take k) : Nat) : Int) ≤ left - n) (fun _ i => n - (intOf i).toNat)
      case atStart => exact ⟨0, Nat.zero_le _, rfl, by simp [sl], by simp [sl]; omega⟩
      case round =>
        obtain ⟨k, hk, rfl, rfl, hle⟩ := hrel
        by_cases hlt : k < n
        · obtain ⟨p, c, c0, hr⟩ := hc k hlt
          have hml : (xss.getD k []).length ≤ maxLen := by obtain ⟨_, _, _, h, _⟩ := hr; exact h
          have HS : Hid (sl (xss.take (k + 1)) = sl (xss.take k) + (xss.getD k []).length) := sl_take xss k (by omega)
          have HL : Hid (sl (xss.take (k + 1)) ≤ sl xss) := sl_le xss (k + 1)
          clear hr hc
          generalize (xss.getD k []).length = m at *
          generalize sl (xss.take k) = s at *
          have hi : (k : Int) < (n : Int) := by omega
          by_cases hfit : (m : Int) ≤ left - n - s
          · go_wp2_with fail
            refine (szInt64S_yes _ _ _ _ _ hfit (by omega)).mono ?_
            rintro e w' ⟨rfl, rfl⟩
            go_wp2
            go_round
            case rel => exact ⟨k + 1, by omega, by go_num, by rw [HS.out]; go_num, by rw [HS.out]; omega⟩
            case measure => simp [intOf]; omega
          · have hno : szR left (tot xss) = -1 := szR_no (by have := HT.out; have := HS.out; have := HL.out; omega)
            have HN : Hid (szR left (tot xss) = -1) := hno
            clear hno
            go_wp2_with fail
            refine (szInt64S_no _ _ _ _ _ hml (by omega) (by omega) (by omega)).mono ?_
            rintro e w' ⟨rfl, rfl⟩
            go_wp2
            go_ret
            exact ⟨by rw [HN.out]; rfl, rfl⟩
        · obtain rfl : k = n := by omega
          have hall : xss.take k = xss := List.take_of_length_le (by omega)
          rw [hall] at hle ⊢
          have HN : Hid (szR left (tot xss) = left - k - (sl xss : Nat)) := by
            show _ = _
            rw [szR_yes (by have := HT.out; omega), HT.out]
            omega
          clear hc hall
          go_wp2
          go_ret
          exact ⟨by rw [HN.out]; rfl, rfl⟩

theorem Tryz.infoS : (Tryz.prog.info? 25).map (fun i => (i.zero, i.size, i.bytes)) = some (some (.slice none 0 0), 1, 24) := by kernel_rfl
theorem nils_set (vs : List Value) (n k : Nat) (u : Value) (hk : k < n) (hv : vs.length = k) : (vs ++ List.replicate (n - k) (Value.slice none 0 0)).set k u = (vs ++ [u]) ++ List.replicate (n - (k + 1)) (Value.slice none 0 0) := by
  rw [List.set_append_right _ _ (by omega), hv, show n - k = (n - (k + 1)) + 1 by omega]
  simp only [Nat.sub_self, List.replicate_succ, List.set_cons_zero, List.append_assoc, List.singleton_append]
set_option maxHeartbeats 1000000 in
theorem toInt64SS_all (v : Value) (xss : List (List Int)) (w : World) (hv : ReadsM w v xss) (hl : tot xss ≤ 1048576) :
    Calls Tryz.prog 36 #[v] w fun e w' => ∃ g bs, e = .returned (.slice (some ⟨g, 0, none⟩) xss.length xss.length) ∧ Mat w' (.slice (some ⟨g, 0, none⟩) xss.length xss.length) xss bs ∧ (∀ x ∈ bs, w.heap.size ≤ x) ∧ Below w.heap.size w w' := by
  obtain ⟨i0, hi, hz0, hz1, hz2⟩ := info_parts Tryz.infoS
  obtain ⟨a, ca, rfl, hm, hA⟩ := hv
  have ht := tot_eq xss
  have HT : Hid (tot xss = xss.length + sl xss ∧ tot xss ≤ 1048576) := ⟨ht, hl⟩
  have hn0 : xss.length ≤ 1048576 := by omega
  clear ht hl
  generalize hn : xss.length = n at *
  go_enter Tryz.func36, Tryz.ntmps36
  go_wp2_with (at_make; refine wpList_make_full _ rfl _ _ 22 rfl w.heap.size 25 i0 (.slice none 0 0) 1 Tryz.underlying22 hi hz0 hz1 _ _ _ _ n rfl rfl rfl rfl (by rw [hz2]; omega) hm (Nat.le_refl _) ?_)
  intro w1 hown hgrow
  have hb1 : Below w.heap.size w w1 := (Below.refl _ _).grown hgrow (Nat.le_refl _) (fun k hk => by cases hk)
  have hown1 : Own w1 25 1 (.slice (some ⟨w.heap.size, 0, none⟩) n n) n (List.replicate n (.slice none 0 0)) [w.heap.size] := by
    obtain ⟨bs, h1, h2⟩ := Own.of_owns hown
    have hbs : bs = [w.heap.size] := by
      rcases h1.2 with ⟨k, _⟩ | ⟨g', cap', cur, rfl, k, _⟩
      · cases k
      · simp at k; rw [k.1]
    rw [hbs, toList_madeCells_one] at h1
    exact h1
  clear hown hgrow
  by_cases hx : n = 0
  · subst hx
    have hx : xss = [] := List.eq_nil_of_length_eq_zero hn
    subst hx
    go_wp2
    refine wp_loop_rounds 1 ?_
    rw [rounds_succ]
    go_wp2
    go_ret
    exact ⟨w.heap.size, [w.heap.size], rfl, ⟨[], [w.heap.size], [], by simpa using hown1, trivial, rfl, by simp⟩, by simp, hb1⟩
  · obtain ⟨b, o, rfl, hlt0, cA⟩ := hA (by intro h; rw [h] at hn; simp at hn; omega)
    clear hA
    have hnb : b ≠ w.heap.size := by omega
    go_wp2
    go_loopw [4] (fun i wr => ∃ k : Nat, ∃ vs : List Value, ∃ bi : List (List Nat), k ≤ n ∧ i = .int .i64 k ∧ Own wr 25 1 (.slice (some ⟨w.heap.size, 0, none⟩) n n) n (vs ++ List.replicate (n - k) (.slice none 0 0)) [w.heap.size] ∧ Rows wr vs (xss.take k) bi ∧ (w.heap.size :: bi.flatten).Nodup ∧ (∀ x ∈ bi.flatten, w.heap.size < x) ∧ Below w.heap.size w wr) (fun i _ => n - (intOf i).toNat)
    case atStart => exact ⟨0, [], [], Nat.zero_le _, rfl, by simpa using hown1, trivial, by simp, by simp, hb1⟩
    case round =>
      clear hown1 hb1
      obtain ⟨k, vs, bi, hk, rfl, hown, hrows, hnd, hgt, hbel⟩ := hrel
      by_cases hlt : k < n
      · obtain ⟨p, c, c0, hr⟩ := cA k hlt
        have hml : (xss.getD k []).length ≤ 1048576 := by have := row_le xss k (by omega); have := HT.out; omega
        have hvl : vs.length = k := by rw [hrows.len.1]; simp; omega
        have c0' : wr.cell? ⟨b, o + k, none⟩ = some (.slice p (xss.getD k []).length c) := (hbel.cell (p := ⟨b, o + k, none⟩) hlt0).trans c0
        have hr' := hr.below hbel
        have HX : Hid (xss.take (k + 1) = xss.take k ++ [xss.getD k []]) := by
          show _ = _
          rw [List.take_succ_eq_append_getElem (by omega)]
          simp [show k < xss.length by omega]
        have hi : (k : Int) < (n : Int) := by omega
        clear cA c0 hr
        generalize xss.getD k [] = ys at *
        go_wp2_with fail
        refine (toInt64S_all _ ys _ hr' hml).mono ?_
        rintro e w2 ⟨h, rfl, ih, hh, hb2⟩
        have hown2 := Own.keep hown hb2
        have hrows2 := hrows.keep hb2
        have hlt2 := hrows.lt
        have hg1 : w.heap.size < wr.heap.size := Own.lt hown _ (by simp)
        have c1 : ∃ u, w2.cell? ⟨w.heap.size, k, none⟩ = some u := ⟨_, (Own.cell hown2 k (by omega)).trans (List.getElem?_eq_getElem (by simp; omega))⟩
        obtain ⟨u, c1⟩ := c1
        have f1 : w2.frozen? ⟨w.heap.size, k, none⟩ = false := Own.frozen hown2 k
        have hset := Own.set hown2 k (.slice (some ⟨h, 0, none⟩) ys.length ys.length)
        rw [nils_set vs n k _ hlt hvl] at hset
        have hb3 : Below w.heap.size w (w2.setCell ⟨w.heap.size, k, none⟩ (.slice (some ⟨h, 0, none⟩) ys.length ys.length)) := (bcall hbel hb2 hbel.size).setCell (Nat.le_refl _) _
        have hrow3 : Rows (w2.setCell ⟨w.heap.size, k, none⟩ (.slice (some ⟨h, 0, none⟩) ys.length ys.length)) (vs ++ [.slice (some ⟨h, 0, none⟩) ys.length ys.length]) (xss.take (k + 1)) (bi ++ [[h]]) := by
          rw [HX.out]
          refine Rows.snoc (hrows2.frame fun g hg => Below.heap_setCell _ _ _ _ (by have := hgt g hg; simp; omega)) (Ints.setOther ih _ _ (by simp; omega))
        have hnd3 : (w.heap.size :: (bi ++ [[h]]).flatten).Nodup := by
          simp only [List.flatten_append, List.flatten_cons, List.flatten_nil, List.append_nil]
          rw [← List.cons_append]
          refine List.nodup_append.2 ⟨hnd, by simp, ?_⟩
          intro x hx y hy
          simp at hy
          subst hy
          rcases List.mem_cons.1 hx with rfl | hx
          · omega
          · have := hlt2 x hx; omega
        have hgt3 : ∀ x ∈ (bi ++ [[h]]).flatten, w.heap.size < x := by
          intro x hx
          simp only [List.flatten_append, List.flatten_cons, List.flatten_nil, List.append_nil, List.mem_append, List.mem_singleton] at hx
          rcases hx with hx | rfl
          · exact hgt x hx
          · omega
        clear hown hown2 hrows hrows2 ih hr' hbel hb2 c0' hnd hgt hlt2
        go_wp2
        go_roundw
        case rel => exact ⟨k + 1, _, _, by omega, by go_num, hset, hrow3, hnd3, hgt3, hb3⟩
        case measure => simp [intOf]; omega
      · obtain rfl : k = n := by omega
        have e : xss.take k = xss := List.take_of_length_le (by omega)
        rw [e] at hrows
        go_wp2
        go_ret
        refine ⟨w.heap.size, w.heap.size :: bi.flatten, rfl, ⟨vs, [w.heap.size], bi, by simpa [hn] using hown, hrows, rfl, hnd⟩, ?_, hbel⟩
        intro x hx
        rcases List.mem_cons.1 hx with rfl | hx
        · exact Nat.le_refl _
        · exact Nat.le_of_lt (hgt x hx)

theorem two_keep {w w' : World} {a b : Addr} {s t : Value} (h : w.cell? a = some s ∧ w.cell? b = some t) (hb : Below w.heap.size w w') : w'.cell? a = some s ∧ w'.cell? b = some t :=
  ⟨kcell h.1 hb, kcell h.2 hb⟩
set_option maxHeartbeats 2000000 in
set_option maxRecDepth 100000 in
theorem eqInt64SS_same (v u : Value) (xss : List (List Int)) (w : World) (hv : ReadsM w v xss) (hu : ReadsM w u xss) :
    Calls Tryz.prog 46 #[v, u] w fun e w' => e = .returned (.bool true) ∧ Below w.heap.size w w' := by
  obtain ⟨a, ca, rfl, hm, hA⟩ := hv
  obtain ⟨b, cb, rfl, _, hB⟩ := hu
  unfold maxLen at hm
  by_cases hx : xss = []
  · subst hx
    simp only [List.length_nil]
    go_enter Tryz.func46, Tryz.ntmps46
    go_wp2
    refine wp_loop_rounds 1 ?_
    rw [rounds_succ]
    go_wp2
    go_ret
    exact ⟨rfl, Below.refl _ _⟩
  · obtain ⟨ga, oa, rfl, hla, cA⟩ := hA hx
    obtain ⟨gb, ob, rfl, hlb, cB⟩ := hB hx
    clear hA hB
    generalize hn : xss.length = n at *
    go_enter Tryz.func46, Tryz.ntmps46
    go_wp2
    go_loopw [5] (fun i wr => ∃ k : Nat, k ≤ n ∧ i = .int .i64 k ∧ Below w.heap.size w wr) (fun i _ => n - (intOf i).toNat)
    case atStart => exact ⟨0, Nat.zero_le _, rfl, Below.refl _ _⟩
    case round =>
      obtain ⟨k, hk, rfl, hbel⟩ := hrel
      by_cases hlt : k < n
      · obtain ⟨p1, q1, c1, r1⟩ := cA k hlt
        obtain ⟨p2, q2, c2, r2⟩ := cB k hlt
        have hS0 := two_keep ⟨c1, c2⟩ hbel
        have R1 := r1.below hbel
        have R2 := r2.below hbel
        have hi : (k : Int) < (n : Int) := by omega
        have hi0 : (0 : Int) ≤ (k : Int) := by omega
        clear c1 c2 r1 r2 cA cB
        generalize xss.getD k [] = ys at *
        go_wp2_with fail
        go_region_held3 (fun w' => w'.cell? ⟨ga, oa + k, none⟩ = some (.slice p1 ys.length q1) ∧ w'.cell? ⟨gb, ob + k, none⟩ = some (.slice p2 ys.length q2)) (first | exact hS0 | exact hS1) (first | (go_at_call 45; refine (eqInt64S_same _ _ ys wr.drew R1 R2).mono ?_; rintro e w1 ⟨rfl, k1⟩; have hS1 := two_keep (w := wr.drew) hS0 k1))
        have hb2 := bcall hbel.drew k1 hbel.size
        go_wp2
        go_roundw
        case rel => exact ⟨k + 1, by omega, by go_num, hb2⟩
        case measure => simp [intOf]; omega
      · go_wp2
        go_ret
        exact ⟨rfl, hbel⟩
/-- marks row by row -/
def marksM (k : Int) : List (List Int) → List (List Int)
  | [] => []
  | xs :: r => marks k xs.length :: marksM (k + xs.length) r
theorem marksM_length : ∀ (k : Int) (xss : List (List Int)), (marksM k xss).length = xss.length
  | _, [] => rfl
  | k, xs :: r => by simp [marksM, marksM_length]
theorem marksM_getD : ∀ (k : Int) (xss : List (List Int)) (i : Nat), i < xss.length → (marksM k xss).getD i [] = marks (k + (sl (xss.take i) : Nat)) (xss.getD i []).length
  | k, [], i, h => by simp at h
  | k, xs :: r, 0, _ => by simp [marksM, sl]
  | k, xs :: r, i + 1, h => by
    have := marksM_getD (k + xs.length) r i (by simpa using h)
    simp only [marksM, List.getD_cons_succ, List.take_succ_cons, sl]
    rw [this]
    congr 1
    omega
theorem marksM_sl : ∀ (k : Int) (xss : List (List Int)) (i : Nat), sl ((marksM k xss).take i) = sl (xss.take i)
  | _, [], i => by simp [marksM]
  | _, _ :: _, 0 => by simp [sl]
  | k, xs :: r, i + 1 => by simp [marksM, sl, marks_length, marksM_sl]
set_option maxHeartbeats 800000 in
theorem heldInt64SS_all (v : Value) (k : Int) (xss : List (List Int)) (w : World) (hv : ReadsM w v (marksM k xss)) (hk : 0 ≤ k) (hk' : k ≤ 536870912) (hl : sl xss ≤ 536870912) :
    Calls Tryz.prog 77 #[v, .int .i64 k] w fun e w' => e = .returned (.int .i64 (k + (sl xss : Nat))) ∧ Below w.heap.size w w' := by
  obtain ⟨a, ca, rfl, hm, hA⟩ := hv
  rw [marksM_length] at *
  unfold maxLen at hm
  by_cases hx : xss = []
  · subst hx
    simp only [List.length_nil]
    go_enter Tryz.func77, Tryz.ntmps77
    go_wp2
    refine wp_loop_rounds 1 ?_
    rw [rounds_succ]
    go_wp2
    go_ret
    exact ⟨by simp [sl], Below.refl _ _⟩
  · obtain ⟨g, o, rfl, hlt0, cA⟩ := hA (by intro h; have := marksM_length k xss; rw [h] at this; simp at this; exact hx (List.eq_nil_of_length_eq_zero this.symm))
    clear hA
    generalize hn : xss.length = n at *
    go_enter Tryz.func77, Tryz.ntmps77
    go_wp2
    go_loopw [1, 5] (fun m i wr => ∃ j : Nat, j ≤ n ∧ i = .int .i64 j ∧ m = .int .i64 (k + (sl (xss.take j) : Nat)) ∧ Below w.heap.size w wr) (fun _ i _ => n - (intOf i).toNat)
    case atStart => exact ⟨0, Nat.zero_le _, rfl, by simp [sl], Below.refl _ _⟩
    case round =>
      obtain ⟨j, hj, rfl, rfl, hbel⟩ := hrel
      by_cases hlt : j < n
      · obtain ⟨p, c, c0, hr⟩ := cA j hlt
        have e := marksM_getD k xss j (by omega)
        have HS : Hid (sl (xss.take (j + 1)) = sl (xss.take j) + (xss.getD j []).length) := sl_take xss j (by omega)
        have HL := sl_le xss (j + 1)
        rw [HS.out] at HL
        rw [e] at c0 hr
        rw [marks_length] at c0 hr
        have c0' : wr.cell? ⟨g, o + j, none⟩ = some (.slice p (xss.getD j []).length c) := (hbel.cell (p := ⟨g, o + j, none⟩) hlt0).trans c0
        have hr' := hr.below hbel
        have hi : (j : Int) < (n : Int) := by omega
        clear cA c0 hr e
        generalize (xss.getD j []).length = m at *
        generalize sl (xss.take j) = s at *
        go_wp2_with fail
        refine (heldInt64S_all _ _ m _ hr' (by omega) (by omega) (by omega)).mono ?_
        rintro e w2 ⟨rfl, hb2⟩
        have hb3 := bcall hbel hb2 hbel.size
        go_wp2
        go_roundw
        case rel => exact ⟨j + 1, by omega, by go_num, by rw [HS.out]; go_num, hb3⟩
        case measure => simp [intOf]; omega
      · obtain rfl : j = n := by omega
        have hall : xss.take j = xss := List.take_of_length_le (by omega)
        rw [hall]
        go_wp2
        go_ret
        exact ⟨rfl, hbel⟩

theorem mem_flat {bi : List (List Nat)} {i : Nat} {b : List Nat} (h : bi[i]? = some b) {g : Nat} (hg : g ∈ b) : g ∈ bi.flatten :=
  List.mem_flatten.2 ⟨b, List.mem_of_getElem? h, hg⟩
/-- one row is written anew, the others stay -/
theorem Rows.upd {w w' : World} : ∀ {vs : List Value} {xss : List (List Int)} {bi : List (List Nat)} {i : Nat} {v : Value} {b : List Nat} {ys : List Int}, Rows w vs xss bi → i < xss.length → vs[i]? = some v → bi[i]? = some b → Off b w w' → Ints w' v ys b → bi.flatten.Nodup → Rows w' vs (xss.set i ys) bi
  | [], [], [], i, _, _, _, _, hi, _, _, _, _, _ => by simp at hi
  | v :: vs, xs :: xss, b :: bi, 0, _, _, ys, h, _, hv, hb, ho, hn, hd => by
    simp at hv hb
    subst hv hb
    rw [List.flatten_cons, List.nodup_append] at hd
    exact ⟨hn, h.2.off ho fun g hg hm => hd.2.2 g hm g hg rfl⟩
  | v :: vs, xs :: xss, b :: bi, i + 1, _, b', ys, h, hi, hv, hb, ho, hn, hd => by
    simp at hv hb hi
    rw [List.flatten_cons, List.nodup_append] at hd
    exact ⟨Ints.off h.1 ho fun g hg hm => hd.2.2 g hg g (mem_flat hb hm) rfl, Rows.upd h.2 hi hv hb ho hn hd.2.1⟩
def mixM (k : Int) (xss : List (List Int)) (j : Nat) : List (List Int) := (marksM k xss).take j ++ xss.drop j
theorem mixM_length (k : Int) (xss : List (List Int)) (j : Nat) (h : j ≤ xss.length) : (mixM k xss j).length = xss.length := by
  simp [mixM, marksM_length]; omega
theorem mixM_set (k : Int) (xss : List (List Int)) (j : Nat) (h : j < xss.length) : (mixM k xss j).set j ((marksM k xss).getD j []) = mixM k xss (j + 1) := by
  have hl : j < (marksM k xss).length := by rw [marksM_length]; exact h
  unfold mixM
  have e : ((marksM k xss).take j).length = j := by simp [marksM_length]; omega
  have hg : (marksM k xss).getD j [] = (marksM k xss)[j] := by simp [hl]
  rw [List.set_append_right _ _ (by omega), e, Nat.sub_self, List.drop_eq_getElem_cons h, List.set_cons_zero, List.take_succ_eq_append_getElem hl, hg]
  simp only [List.append_assoc, List.singleton_append]
theorem mixM_getD (k : Int) (xss : List (List Int)) (j : Nat) (h : j < xss.length) : (mixM k xss j).getD j [] = xss.getD j [] := by
  have hl : ((marksM k xss).take j).length = j := by simp [marksM_length]; omega
  unfold mixM
  rw [List.getD_eq_getElem?_getD, List.getElem?_append_right (by omega), hl, Nat.sub_self]
  simp
set_option maxHeartbeats 1000000 in
theorem markInt64SS_all (v : Value) (k : Int) (xss : List (List Int)) (bs : List Nat) (w : World) (hv : Mat w v xss bs) (hk : 0 ≤ k) (hk' : k ≤ 536870912) (hl : sl xss ≤ 536870912) :
    Calls Tryz.prog 51 #[v, .int .i64 k] w fun e w' => e = .returned (.int .i64 (k + (sl xss : Nat))) ∧ Mat w' v (marksM k xss) bs ∧ Off bs w w' := by
  obtain ⟨vs, bo, bi, hO, hR, rfl, hd⟩ := hv
  have hm := Own.le hO
  unfold maxLen at hm
  by_cases hx : xss = []
  · subst hx
    obtain ⟨a, cap, rfl⟩ := Own.value hO
    simp only [List.length_nil] at *
    go_enter Tryz.func51, Tryz.ntmps51
    go_wp2
    refine wp_loop_rounds 1 ?_
    rw [rounds_succ]
    go_wp2
    go_ret
    exact ⟨by simp [sl], ⟨vs, bo, bi, hO, hR, rfl, hd⟩, Off.refl _ _⟩
  · obtain ⟨g, cap, rfl, rfl, hc1, hc2⟩ := Own.shape hO (List.length_pos_iff.2 hx)
    have hlen := hR.len
    have hd2 := (List.nodup_append.1 hd).2.1
    have hng : g ∉ bi.flatten := fun hm => (List.nodup_append.1 hd).2.2 g (by simp) g hm rfl
    generalize hn : xss.length = n at *
    go_enter Tryz.func51, Tryz.ntmps51
    go_wp2
    go_loopw [1, 5] (fun m i wr => ∃ j : Nat, j ≤ n ∧ i = .int .i64 j ∧ m = .int .i64 (k + (sl (xss.take j) : Nat)) ∧ Rows wr vs (mixM k xss j) bi ∧ Off bi.flatten w wr) (fun _ i _ => n - (intOf i).toNat)
    case atStart => exact ⟨0, Nat.zero_le _, rfl, by simp [sl], by simpa [mixM] using hR, Off.refl _ _⟩
    case round =>
      obtain ⟨j, hj, rfl, rfl, hrows, hoff⟩ := hrel
      have hOr := Own.off hO hoff (by simpa using hng)
      by_cases hlt : j < n
      · obtain ⟨u, b, hu, hb, hI⟩ := hrows.get j (by rw [mixM_length k xss j (by omega)]; omega)
        rw [mixM_getD k xss j (by omega)] at hI
        obtain ⟨p, c, rfl⟩ := Ints.value hI
        have c0 : wr.cell? ⟨g, j, none⟩ = some (.slice p (xss.getD j []).length c) := by rw [Own.cell hOr j (by omega)]; exact hu
        have HS : Hid (sl (xss.take (j + 1)) = sl (xss.take j) + (xss.getD j []).length) := sl_take xss j (by omega)
        have HL := sl_le xss (j + 1)
        rw [HS.out] at HL
        have HM : Hid ((marksM k xss).getD j [] = marks (k + (sl (xss.take j) : Nat)) (xss.getD j []).length) := marksM_getD k xss j (by omega)
        have hi : (j : Int) < (n : Int) := by omega
        clear hOr
        generalize xss.getD j [] = ys at *
        generalize sl (xss.take j) = s at *
        go_wp2_with fail
        refine (markInt64S_all _ ys b _ _ hI (by omega) (by omega) (by omega)).mono ?_
        rintro e w2 ⟨rfl, hI2, ho2⟩
        have hrows2 : Rows w2 vs (mixM k xss (j + 1)) bi := by
          rw [← mixM_set k xss j (by omega), HM.out]
          exact hrows.upd (by rw [mixM_length k xss j (by omega)]; omega) hu hb ho2 hI2 hd2
        have hoff2 := hoff.trans (ho2.mono (fun g hg => mem_flat hb hg))
        clear hI hI2 ho2 hrows hoff c0 hu
        go_wp2
        go_roundw
        case rel => exact ⟨j + 1, by omega, by go_num, by rw [HS.out]; go_num, hrows2, hoff2⟩
        case measure => simp [intOf]; omega
      · obtain rfl : j = n := by omega
        have hall : xss.take j = xss := List.take_of_length_le (by omega)
        have hmix : mixM k xss j = marksM k xss := by
          unfold mixM
          rw [List.take_of_length_le (by rw [marksM_length]; omega), List.drop_eq_nil_of_le (by omega), List.append_nil]
        rw [hall]
        rw [hmix] at hrows
        go_wp2
        go_ret
        exact ⟨rfl, ⟨vs, [g], bi, by rw [marksM_length, hn]; exact hOr, hrows, rfl, hd⟩, hoff.mono (fun x hx => by simp; exact .inr (by simpa using hx))⟩
end Go.Proofs.YtepobckhfodngaoGreat
