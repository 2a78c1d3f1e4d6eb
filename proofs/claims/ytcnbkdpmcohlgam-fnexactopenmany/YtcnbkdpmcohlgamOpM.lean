/-
  Many that are opened, in the program and in its model.
-/
import Derived.Test.YtcnbkdpmcohlgamMrS
import Derived.Test.YtcnbkdpmcohlgamOpn3
import Derived.Test.YtcnbkdpmcohlgamOpnS
namespace Go.Proofs.Ytcnbkdpmcohlgam
open Go.ChangeShapes Go.WideShapes Go.ChangeAt Go.RowKit
set_option linter.unusedVariables false

/-- the first code, one by one -/
def manyC (who by' : Int) : List MMirror → Int
  | [] => 0
  | x :: r => if (openR x.xQ x.xViews who by').xCode = 0 then manyC who by' r else (openR x.xQ x.xViews who by').xCode
def manyV (who by' : Int) (xs : List MMirror) : List (List Int) := xs.map fun x => (openR x.xQ x.xViews who by').xValues
def openManyR (xs : List MMirror) (who by' : Int) : MTableResult := if 20 < xs.length then ⟨2, []⟩ else if manyC who by' xs = 0 then ⟨0, manyV who by' xs⟩ else ⟨manyC who by' xs, []⟩
theorem manyC_all (who by' : Int) : ∀ xs : List MMirror, (∀ j, j < xs.length → (openR (xs.getD j zM).xQ (xs.getD j zM).xViews who by').xCode = 0) → manyC who by' xs = 0
  | [], _ => rfl
  | x :: r, h => by
    have h0 := h 0 (by simp)
    simp only [List.getD_cons_zero] at h0
    rw [manyC, if_pos h0]
    exact manyC_all who by' r fun j hj => by simpa using h (j + 1) (by simpa using hj)
theorem manyC_first (who by' : Int) : ∀ (xs : List MMirror) (k : Nat), k < xs.length → (∀ j, j < k → (openR (xs.getD j zM).xQ (xs.getD j zM).xViews who by').xCode = 0) → (openR (xs.getD k zM).xQ (xs.getD k zM).xViews who by').xCode ≠ 0 → manyC who by' xs = (openR (xs.getD k zM).xQ (xs.getD k zM).xViews who by').xCode
  | [], k, hk, _, _ => by simp at hk
  | x :: r, 0, _, _, h => by simp only [List.getD_cons_zero] at h ⊢; rw [manyC, if_neg h]
  | x :: r, k + 1, hk, ha, h => by
    have h0 := ha 0 (by omega)
    simp only [List.getD_cons_zero] at h0
    simp only [List.getD_cons_succ] at h ⊢
    rw [manyC, if_pos h0]
    exact manyC_first who by' r k (by simpa using hk) (fun j hj => by simpa using ha (j + 1) (by omega)) h
theorem manyV_take (who by' : Int) (xs : List MMirror) (k : Nat) (h : k < xs.length) : (manyV who by' xs).take (k + 1) = (manyV who by' xs).take k ++ [(openR (xs.getD k zM).xQ (xs.getD k zM).xViews who by').xValues] := by
  rw [List.take_succ_eq_append_getElem (by simp [manyV, h])]
  simp [manyV, h]
theorem openManyR_many {xs : List MMirror} {who by' : Int} (h : 20 < xs.length) : openManyR xs who by' = ⟨2, []⟩ := if_pos h
theorem openManyR_bad {xs : List MMirror} {who by' : Int} (h : ¬ 20 < xs.length) (k : manyC who by' xs ≠ 0) : openManyR xs who by' = ⟨manyC who by' xs, []⟩ := by unfold openManyR; rw [if_neg h, if_neg k]
theorem openManyR_ok {xs : List MMirror} {who by' : Int} (h : ¬ 20 < xs.length) (k : manyC who by' xs = 0) : openManyR xs who by' = ⟨0, manyV who by' xs⟩ := by unfold openManyR; rw [if_neg h, if_pos k]
theorem openR_len (q : Int) (xss : List (List Int)) (who by' : Int) : (openR q xss who by').xValues.length ≤ 4 := by
  unfold openR
  split
  · split
    · split <;> simp [openL]
    · simp
  · simp
theorem manyV_sl (who by' : Int) : ∀ xs : List MMirror, sl (manyV who by' xs) ≤ 4 * xs.length
  | [] => by simp [manyV, sl]
  | x :: r => by
    have h1 := manyV_sl who by' r
    have h2 := openR_len x.xQ x.xViews who by'
    unfold manyV at *
    simp only [List.map_cons, sl, List.length_cons]
    omega
theorem openManyR_cnt (xs : List MMirror) (who by' : Int) : cntTableResult (openManyR xs who by') ≤ 268435456 := by
  have h := manyV_sl who by' xs
  unfold openManyR
  split
  · simp [cntTableResult, sl]
  · split
    · show sl (manyV who by' xs) ≤ _
      omega
    · simp [cntTableResult, sl]
def OutTab (w w' : World) (r : MTableResult) (e : Ending) : Prop := ∃ u bs, e = .returned u ∧ OwTableResult w' u r bs ∧ (∀ y ∈ bs, w.heap.size ≤ y) ∧ Below w.heap.size w w'
theorem OutTab.bad {w W : World} (c : Int) (h : Below w.heap.size w W) : OutTab w W ⟨c, []⟩ (.returned (.agg #[.int .i64 c, .slice none 0 0])) := ⟨_, [], rfl, ⟨none, 0, rfl, Mat.nil _⟩, by simp, h⟩
set_option maxHeartbeats 4000000 in
set_option maxRecDepth 100000 in
theorem impl_OpenMany (v : Value) (xs : List MMirror) (who by' : Int) (w : World) (hv : RdMirrorS w v xs) :
    Calls Try.prog 29 #[v, .int .i64 who, .int .i64 by'] w fun e w' => OutTab w w' (openManyR xs who by') e := by
  obtain ⟨i0, hi, hz0, hz1, hz2⟩ := info_parts Try.infoS
  obtain ⟨a, ca, rfl, hm, hA⟩ := hv
  unfold maxLen at hm
  have B0 : Below w.heap.size w (w.alloc (.cells #[.int .i64 0, .slice none 0 0] 55)) := (by repeat (first | exact Below.refl _ _ | refine Below.drew ?_ | refine below_drewN ?_ _ | refine Below.setCell ?_ (by first | omega | (simp; done) | (simp; omega)) _ | refine Below.alloc ?_ (by first | omega | (simp; done) | (simp; omega)) _))
  have Y0 := Blk.new w 55 #[.int .i64 0, .slice none 0 0]
  by_cases h20 : 20 < xs.length
  · rw [openManyR_many h20]
    have hd : (20 : Int) < (xs.length : Int) := by omega
    generalize xs.length = n at *
    go_enter Try.func29, Try.ntmps29
    go_wp2_with (refine wpList_store_blk rfl 55 _ _ rfl w.heap.size #[.int .i64 2, .slice none 0 0] rfl rfl Y0 rfl (by kernel_rfl) (by kernel_rfl) ?_; intro w9 Y9 O9)
    exact bodyPost_ret (v := .agg #[.int .i64 2, .slice none 0 0]) (results_blk Try.results29 rfl Y9 Try.underlying55 rfl (by kernel_rfl)) rfl (OutTab.bad _ (B0.trans (O9.toBelow B0.size (by simp))))
  · have H20 : Hid (¬ 20 < xs.length) := h20
    have HVL : Hid ((manyV who by' xs).length = xs.length) := by show _ = _; simp [manyV]
    have KO := fun W (x : MMirror) p c h => impl_OpenMirror (.agg #[.int .i64 x.xQ, .slice p x.xViews.length c]) x who by' W h
    generalize hn : xs.length = n at *
    have HN : Hid (xs.length = n) := hn
    clear hn
    have hd : ¬ (20 : Int) < (n : Int) := by omega
    go_enter Try.func29, Try.ntmps29
    go_wp2_with (at_make; refine wpList_make_full _ rfl _ _ 22 rfl w.heap.size 26 i0 (.slice none 0 0) 1 Try.underlying22 hi hz0 hz1 _ _ _ _ n rfl rfl rfl rfl (by rw [hz2]; omega) (by unfold maxLen; omega) (by simp) ?_)
    intro w1 hown hgrow
    have hb1 : Below w.heap.size w w1 := B0.grown hgrow B0.size (fun k hk => by cases hk)
    have Y1 : Blk w1 w.heap.size 55 #[.int .i64 0, .slice none 0 0] := Y0.keep ((Below.refl _ _).grown hgrow (Nat.le_refl _) (fun k hk => by cases hk))
    have hown1 : Own w1 26 1 (.slice (some ⟨w.heap.size + 1, 0, none⟩) n n) n (List.replicate n (.slice none 0 0)) [w.heap.size + 1] := by
      obtain ⟨bs, h1, h2⟩ := Own.of_owns hown
      have hbs : bs = [w.heap.size + 1] := by
        rcases h1.2 with ⟨k, _⟩ | ⟨g', cap', cur, rfl, k, _⟩
        · cases k
        · simp at k; rw [k.1]
      rw [hbs] at h1
      simpa [toList_madeCells_one] using h1
    clear hown hgrow B0 Y0
    go_wp2
    go_loopw [20] (fun i wr => ∃ k : Nat, ∃ vs : List Value, ∃ bi : List (List Nat), k ≤ n ∧ i = .int .i64 k ∧ Blk wr w.heap.size 55 #[.int .i64 0, .slice none 0 0] ∧ Own wr 26 1 (.slice (some ⟨w.heap.size + 1, 0, none⟩) n n) n (vs ++ List.replicate (n - k) (.slice none 0 0)) [w.heap.size + 1] ∧ Rows wr vs ((manyV who by' xs).take k) bi ∧ ((w.heap.size + 1) :: bi.flatten).Nodup ∧ (∀ x ∈ bi.flatten, w.heap.size + 1 < x) ∧ Below w.heap.size w wr ∧ Hid (∀ j, j < k → (openR (xs.getD j zM).xQ (xs.getD j zM).xViews who by').xCode = 0)) (fun i _ => n - (intOf i).toNat)
    case atStart => exact ⟨0, [], [], Nat.zero_le _, rfl, Y1, by simpa using hown1, trivial, by simp, by simp, hb1, fun j hj => by omega⟩
    case round =>
      clear hb1 hown1 Y1
      obtain ⟨k, vs, bi, hk, rfl, Y, hown, hrows, hnd, hgt, hbel, HC⟩ := hrel
      by_cases hlt : k < n
      · obtain ⟨b, o, rfl, hlt0, cA⟩ := hA (by intro h; have := HN.out; rw [h] at this; simp at this; omega)
        obtain ⟨p, c, c0, c1, hr⟩ := cA k hlt
        have c0' := (hbel.cell (p := ⟨b, o + k * 2, none⟩) hlt0).trans c0
        have c1' := (hbel.cell (p := ⟨b, o + k * 2 + 1, none⟩) hlt0).trans c1
        have hr' := hr.below hbel
        have HXK : Hid ((manyV who by' xs).take (k + 1) = (manyV who by' xs).take k ++ [(openR (xs.getD k zM).xQ (xs.getD k zM).xViews who by').xValues]) := manyV_take who by' xs k (by rw [HN.out]; exact hlt)
        have HFC : Hid ((openR (xs.getD k zM).xQ (xs.getD k zM).xViews who by').xCode ≠ 0 → manyC who by' xs = (openR (xs.getD k zM).xQ (xs.getD k zM).xViews who by').xCode) := fun h => manyC_first who by' xs k (by rw [HN.out]; exact hlt) HC.out h
        have HNX : Hid ((openR (xs.getD k zM).xQ (xs.getD k zM).xViews who by').xCode = 0 → ∀ j, j < k + 1 → (openR (xs.getD j zM).xQ (xs.getD j zM).xViews who by').xCode = 0) := fun h j hj => by
          rcases Nat.lt_succ_iff_lt_or_eq.1 hj with h' | rfl
          · exact HC.out j h'
          · exact h
        have hi : (k : Int) < (n : Int) := by omega
        have hrl := hrows.len
        have hvl : vs.length = k := by rw [hrl.1, List.length_take, HVL.out]; omega
        clear cA c0 c1 hr hA HC hrl
        have KX := fun W h => KO W (xs.getD k zM) p c h
        generalize hR : openR (xs.getD k zM).xQ (xs.getD k zM).xViews who by' = R at *
        have HRR : Hid (openR (xs.getD k zM).xQ (xs.getD k zM).xViews who by' = R) := hR
        clear hR
        generalize hxk : xs.getD k zM = x at *
        have HXX : Hid (xs.getD k zM = x) := hxk
        clear hxk
        have HRD : Hid (RdMirror (wr.alloc (.cells #[.int .i64 x.xQ, .slice p x.xViews.length c] 30)) (.agg #[.int .i64 x.xQ, .slice p x.xViews.length c]) x) := ⟨p, c, rfl, hr'.below ((Below.refl _ _).alloc (Nat.le_refl _) _)⟩
        have hA1 : Below wr.heap.size wr (wr.alloc (.cells #[.int .i64 x.xQ, .slice p x.xViews.length c] 30)) := (Below.refl _ _).alloc (Nat.le_refl _) _
        clear hr' KO
        go_wp2_with fail
        refine (KX _ HRD.out).mono ?_
        rintro e w2 ⟨u, b2, rfl, ih, hh, hb2⟩
        obtain ⟨p2, c2, rfl, hI⟩ := ih
        have hb12 := hA1.trans (hb2.mono hA1.size)
        have hA2 : Below w2.heap.size w2 (w2.alloc (.cells #[.int .i64 R.xCode, .slice p2 R.xValues.length c2] 28)) := (Below.refl _ _).alloc (Nat.le_refl _) _
        have hb123 := hb12.trans (hA2.mono hb12.size)
        have Y2 := Y.keep hb123
        have hown2 := Own.keep hown hb123
        have hrows2 := hrows.keep hb123
        have hI2 := hI.keep hA2
        have hlt2 := hrows.lt
        have hg1 : w.heap.size + 1 < wr.heap.size := Own.lt hown _ (by simp)
        have hbel3 := hbel.trans (hb123.mono hbel.size)
        have hh2 : ∀ y ∈ b2, wr.heap.size < y := fun y hy => by have := hh y hy; simp at this; omega
        clear hA1 hb2 hb12 hA2 hb123 Y hown hrows hI hbel hh KX HRD c0' c1'
        by_cases hc : R.xCode = 0
        · have e0 : (R.xCode != 0) = false := by simpa using hc
          have HNC := (show Hid _ from HNX.out hc)
          clear hc HFC HNX
          have d0 : ∃ u, (w2.alloc (.cells #[.int .i64 R.xCode, .slice p2 R.xValues.length c2] 28)).cell? ⟨w.heap.size + 1, k, none⟩ = some u := ⟨_, (Own.cell hown2 k (by omega)).trans (List.getElem?_eq_getElem (by simp; omega))⟩
          obtain ⟨u0, d0⟩ := d0
          have f0 : (w2.alloc (.cells #[.int .i64 R.xCode, .slice p2 R.xValues.length c2] 28)).frozen? ⟨w.heap.size + 1, k, none⟩ = false := Own.frozen hown2 k
          have hset := Own.set hown2 k (.slice p2 R.xValues.length c2)
          rw [nils_set vs n k _ hlt hvl] at hset
          have hoff : Off [w.heap.size + 1] (w2.alloc (.cells #[.int .i64 R.xCode, .slice p2 R.xValues.length c2] 28)) ((w2.alloc (.cells #[.int .i64 R.xCode, .slice p2 R.xValues.length c2] 28)).setCell ⟨w.heap.size + 1, k, none⟩ (.slice p2 R.xValues.length c2)) := (Off.refl _ _).setCell _ _ (by simp)
          have Y3 := Y2.off hoff (by simp)
          have hb3 := hbel3.trans (hoff.toBelow hbel3.size (by simp))
          have hrow3 := (hrows2.off hoff (fun g hg hm => by have := hgt g hg; simp at hm; omega)).snoc (hI2.off hoff (fun g hg hm => by have := hh2 g hg; simp at hm; omega))
          rw [← HXK.out] at hrow3
          have hnd3 : ((w.heap.size + 1) :: (bi ++ [b2]).flatten).Nodup := by
            simp only [List.flatten_append, List.flatten_cons, List.flatten_nil, List.append_nil]
            rw [← List.cons_append]
            refine List.nodup_append.2 ⟨hnd, hI2.nodup, ?_⟩
            intro x hx y hy e
            subst e
            have := hh2 x hy
            rcases List.mem_cons.1 hx with rfl | hx
            · omega
            · have := hlt2 x hx; omega
          have hgt3 : ∀ x ∈ (bi ++ [b2]).flatten, w.heap.size + 1 < x := by
            intro x hx
            simp only [List.flatten_append, List.flatten_cons, List.flatten_nil, List.append_nil, List.mem_append] at hx
            rcases hx with hx | hx
            · exact hgt x hx
            · have := hh2 x hx; omega
          clear hown2 hrows2 hI2 hbel3 hnd hgt hlt2 hoff hh2 Y2
          go_wp2
          go_roundw
          case rel => exact ⟨k + 1, _, _, by omega, by go_num, Y3, hset, hrow3, hnd3, hgt3, hb3, HNC⟩
          case measure => simp [intOf]; omega
        · have e0 : (R.xCode != 0) = true := by simpa using hc
          have hcx := HFC.out hc
          have hcz : manyC who by' xs ≠ 0 := by rw [hcx]; exact hc
          have HRES : Hid (openManyR xs who by' = ⟨R.xCode, []⟩) := by show _ = _; rw [openManyR_bad (by rw [HN.out]; exact H20.out) hcz, hcx]
          clear hc hcx hcz HFC HNX
          go_wp2_with (refine wpList_store_blk rfl 55 _ _ rfl w.heap.size #[.int .i64 R.xCode, .slice none 0 0] rfl rfl Y2 rfl (by kernel_rfl) (by kernel_rfl) ?_; intro w9 Y9 O9)
          exact bodyPost_ret (v := .agg #[.int .i64 R.xCode, .slice none 0 0]) (results_blk Try.results29 rfl Y9 Try.underlying55 rfl (by kernel_rfl)) rfl (by rw [HRES.out]; exact OutTab.bad _ (hbel3.trans (O9.toBelow hbel3.size (by simp))))
      · obtain rfl : k = n := by omega
        have e : (manyV who by' xs).take k = manyV who by' xs := List.take_of_length_le (by rw [HVL.out]; omega)
        rw [e] at hrows
        have HRES : Hid (openManyR xs who by' = ⟨0, manyV who by' xs⟩) := openManyR_ok (by rw [HN.out]; exact H20.out) (manyC_all who by' xs (by rw [HN.out]; exact HC.out))
        have hM : Mat wr (.slice (some ⟨w.heap.size + 1, 0, none⟩) k k) (manyV who by' xs) ((w.heap.size + 1) :: bi.flatten) := ⟨vs, [w.heap.size + 1], bi, by rw [HVL.out]; simpa using hown, hrows, rfl, hnd⟩
        clear hown hrows e
        go_wp2_with (refine wpList_store_blk rfl 55 _ _ rfl w.heap.size #[.int .i64 0, .slice (some ⟨w.heap.size + 1, 0, none⟩) k k] rfl rfl Y rfl (by kernel_rfl) (by kernel_rfl) ?_; intro w9 Y9 O9)
        exact bodyPost_ret (v := .agg #[.int .i64 0, .slice (some ⟨w.heap.size + 1, 0, none⟩) k k]) (results_blk Try.results29 rfl Y9 Try.underlying55 rfl (by kernel_rfl)) rfl (by rw [HRES.out]; exact ⟨_, (w.heap.size + 1) :: bi.flatten, rfl, ⟨some ⟨w.heap.size + 1, 0, none⟩, k, by dsimp only; rw [HVL.out], by dsimp only; rw [HVL.out]; exact hM.off O9 (fun y hy hm => by simp at hm; subst hm; rcases List.mem_cons.1 hy with h | h; omega; (have := hgt _ h; omega))⟩, fun y hy => by rcases List.mem_cons.1 hy with h | h; omega; (have := hgt _ h; omega), hbel.trans (O9.toBelow hbel.size (by simp))⟩)
set_option maxHeartbeats 4000000 in
set_option maxRecDepth 100000 in
theorem spec_OpenMany (v : Value) (xs : List MMirror) (who by' : Int) (w : World) (hv : RdMirrorS w v xs) :
    Calls Try.prog 28 #[v, .int .i64 who, .int .i64 by'] w fun e w' => OutTab w w' (openManyR xs who by') e := by
  obtain ⟨i0, hi, hz0, hz1, hz2⟩ := info_parts Try.infoS
  obtain ⟨a, ca, rfl, hm, hA⟩ := hv
  unfold maxLen at hm
  by_cases h20 : 20 < xs.length
  · have B0 : Below w.heap.size w (w.alloc (.cells #[.int .i64 0, .slice none 0 0] 55)) := (by repeat (first | exact Below.refl _ _ | refine Below.drew ?_ | refine below_drewN ?_ _ | refine Below.setCell ?_ (by first | omega | (simp; done) | (simp; omega)) _ | refine Below.alloc ?_ (by first | omega | (simp; done) | (simp; omega)) _))
    have Y0 := Blk.new w 55 #[.int .i64 0, .slice none 0 0]
    rw [openManyR_many h20]
    have hd : (20 : Int) < (xs.length : Int) := by omega
    generalize xs.length = n at *
    go_enter Try.func28, Try.ntmps28
    go_wp2_with (refine wpList_store_blk rfl 55 _ _ rfl w.heap.size #[.int .i64 2, .slice none 0 0] rfl rfl Y0 rfl (by kernel_rfl) (by kernel_rfl) ?_; intro w9 Y9 O9)
    exact bodyPost_ret (v := .agg #[.int .i64 2, .slice none 0 0]) (results_blk Try.results28 rfl Y9 Try.underlying55 rfl (by kernel_rfl)) rfl (OutTab.bad _ (B0.trans (O9.toBelow B0.size (by simp))))
  · have H20 : Hid (¬ 20 < xs.length) := h20
    have HVL : Hid ((manyV who by' xs).length = xs.length) := by show _ = _; simp [manyV]
    have KO := fun W (x : MMirror) p c h => spec_OpenMirror (.agg #[.int .i64 x.xQ, .slice p x.xViews.length c]) x who by' W h
    generalize hn : xs.length = n at *
    have HN : Hid (xs.length = n) := hn
    clear hn
    have hd : ¬ (20 : Int) < (n : Int) := by omega
    have Y0 : Blk ((w.alloc (.cells #[.int .i64 0, .slice none 0 0] 55)).alloc (.cells #[.int .i64 0, .slice none 0 0] 55)) w.heap.size 55 #[.int .i64 0, .slice none 0 0] := (Blk.new w _ _).alloc _
    have Z0 : Blk ((w.alloc (.cells #[.int .i64 0, .slice none 0 0] 55)).alloc (.cells #[.int .i64 0, .slice none 0 0] 55)) (w.heap.size + 1) 55 #[.int .i64 0, .slice none 0 0] := by simpa using Blk.new (w.alloc (.cells #[.int .i64 0, .slice none 0 0] 55)) 55 #[.int .i64 0, .slice none 0 0]
    have B0 : Below w.heap.size w ((w.alloc (.cells #[.int .i64 0, .slice none 0 0] 55)).alloc (.cells #[.int .i64 0, .slice none 0 0] 55)) := (by repeat (first | exact Below.refl _ _ | refine Below.drew ?_ | refine below_drewN ?_ _ | refine Below.setCell ?_ (by first | omega | (simp; done) | (simp; omega)) _ | refine Below.alloc ?_ (by first | omega | (simp; done) | (simp; omega)) _))
    go_enter Try.func28, Try.ntmps28
    go_wp2
    go_loopw [8] (fun i wr => ∃ k : Nat, ∃ ov : Value, ∃ vs : List Value, ∃ bo : List Nat, ∃ bi : List (List Nat), k ≤ n ∧ i = .int .i64 k ∧ Blk wr w.heap.size 55 #[.int .i64 0, .slice none 0 0] ∧ Blk wr (w.heap.size + 1) 55 #[.int .i64 0, ov] ∧ Own wr 26 1 ov k vs bo ∧ Rows wr vs ((manyV who by' xs).take k) bi ∧ (bo ++ bi.flatten).Nodup ∧ (∀ x ∈ bo ++ bi.flatten, w.heap.size + 1 < x) ∧ Below w.heap.size w wr ∧ Hid (∀ j, j < k → (openR (xs.getD j zM).xQ (xs.getD j zM).xViews who by').xCode = 0)) (fun i _ => n - (intOf i).toNat)
    case atStart => exact ⟨0, _, [], [], [], Nat.zero_le _, rfl, Y0, Z0, ⟨rfl, .inl ⟨rfl, rfl, rfl⟩⟩, trivial, by simp, by simp, B0, fun j hj => by omega⟩
    case round =>
      clear B0 Z0 Y0
      obtain ⟨k, ov, vs, bo, bi, hk, rfl, Y, Z, hO, hR, hnd, hgt, B, HC⟩ := hrel
      obtain ⟨po, co, rfl⟩ := Own.value hO
      by_cases hlt : k < n
      · obtain ⟨b, o, rfl, hlt0, cA⟩ := hA (by intro h; have := HN.out; rw [h] at this; simp at this; omega)
        obtain ⟨p, c, c0, c1, hr⟩ := cA k hlt
        have c0' := (B.cell (p := ⟨b, o + k * 2, none⟩) hlt0).trans c0
        have c1' := (B.cell (p := ⟨b, o + k * 2 + 1, none⟩) hlt0).trans c1
        have hr' := hr.below B
        have HT : Hid ((manyV who by' xs).take (k + 1) = (manyV who by' xs).take k ++ [(openR (xs.getD k zM).xQ (xs.getD k zM).xViews who by').xValues]) := manyV_take who by' xs k (by rw [HN.out]; exact hlt)
        have HFC : Hid ((openR (xs.getD k zM).xQ (xs.getD k zM).xViews who by').xCode ≠ 0 → manyC who by' xs = (openR (xs.getD k zM).xQ (xs.getD k zM).xViews who by').xCode) := fun h => manyC_first who by' xs k (by rw [HN.out]; exact hlt) HC.out h
        have HNX : Hid ((openR (xs.getD k zM).xQ (xs.getD k zM).xViews who by').xCode = 0 → ∀ j, j < k + 1 → (openR (xs.getD j zM).xQ (xs.getD j zM).xViews who by').xCode = 0) := fun h j hj => by
          rcases Nat.lt_succ_iff_lt_or_eq.1 hj with h' | rfl
          · exact HC.out j h'
          · exact h
        have hi' : (k : Int) < (n : Int) := by omega
        clear cA c0 c1 hr hA HC
        have KX := fun W h => KO W (xs.getD k zM) p c h
        generalize openR (xs.getD k zM).xQ (xs.getD k zM).xViews who by' = R at *
        generalize xs.getD k zM = x at *
        have HRD : Hid (RdMirror wr (.agg #[.int .i64 x.xQ, .slice p x.xViews.length c]) x) := ⟨p, c, rfl, hr'⟩
        have lt0 := Own.lt hO
        have lt1 := hR.lt
        clear hr' KO
        go_wp2_with fail
        refine (KX _ HRD.out).mono ?_
        rintro e w2 ⟨u, b2, rfl, ih, hh, hb2⟩
        obtain ⟨p2, c2, rfl, hI⟩ := ih
        have hA2 : Below w2.heap.size w2 (w2.alloc (.cells #[.int .i64 R.xCode, .slice p2 R.xValues.length c2] 28)) := (Below.refl _ _).alloc (Nat.le_refl _) _
        have X3 := Blk.new w2 28 #[.int .i64 R.xCode, .slice p2 R.xValues.length c2]
        have hb23 := hb2.trans (hA2.mono hb2.size)
        have zB := B.size
        have Y2 := Y.keep hb23
        have Z2 := Z.keep hb23
        have hO2 := Own.keep hO hb23
        have hR2 := hR.keep hb23
        have hI2 := hI.keep hA2
        have ltI := hI2.lt
        have B2 := B.trans (hb23.mono B.size)
        have zw := hb2.size
        have zl := Z.lt
        clear hb2 hA2 hb23 Y Z hO hR hI B KX HRD c0' c1'
        have x3 := X3.lt
        generalize hg3 : w2.alloc (.cells #[.int .i64 R.xCode, .slice p2 R.xValues.length c2] 28) = w3 at *
        have HG3 : Hid (w2.alloc (.cells #[.int .i64 R.xCode, .slice p2 R.xValues.length c2] 28) = w3) := hg3
        clear hg3
        by_cases hc : R.xCode = 0
        · have e0 : (R.xCode != 0) = false := by simpa using hc
          have HNC := (show Hid _ from HNX.out hc)
          clear hc HFC HNX
          have za := Z2.at.1
          have zb := Z2.at.2
          have xa := X3.at.1
          rw [← HG3.out] at za zb xa hO2
          go_wp2_with (at_builtin; refine wpList_append_Own rfl _ _ 22 rfl 26 i0 (.slice none 0 0) 1 24 Try.underlying22 hi hz0 hz1 hz2 rfl (by decide) _ _ _ bo rfl (Own.alloc hO2 _) ⟨w2.heap.size + 1, 0, none⟩ 1 1 [.slice p2 R.xValues.length c2] rfl rfl ?c1 ?c2 ?c3 ?c4 ?c5 ?_)
          case c1 =>
            rw [show w2.heap.size + 1 = (w2.alloc (.cells #[.int .i64 R.xCode, .slice p2 R.xValues.length c2] 28)).heap.size by simp]
            exact one_new (Blk.new _ _ _)
          case c2 => intro u hu; simp at hu; subst hu; rfl
          case c3 => omega
          case c4 => unfold maxLen; omega
          case c5 => omega
          intro g cap w4 hO4 hoff hg4
          rw [HG3.out] at hoff
          have z3 : w3.heap.size = w2.heap.size + 1 := by rw [← HG3.out]; simp
          clear za zb xa hO2 X3
          have hR3 := hR2.keep ((Below.refl w3.heap.size w3).alloc (Nat.le_refl _) (.cells #[.slice p2 R.xValues.length c2] 26))
          have hI3 := Ints.alloc hI2 (.cells #[.slice p2 R.xValues.length c2] 26)
          obtain ⟨R3, N3⟩ := Rows.push hR3 hI3 hoff hnd (fun x hx hm => by have := hh x hx; rcases List.mem_append.1 hm with h | h; (have := lt0 x h; omega); (have := lt1 x h; omega)) hI2.nodup (hg4.imp id (fun h => by simp; omega))
          have zg : ∀ x ∈ [g] ++ (bi ++ [b2]).flatten, w.heap.size + 1 < x := by
            intro x hx
            simp only [List.flatten_append, List.flatten_cons, List.flatten_nil, List.append_nil, List.mem_append] at hx
            rcases hx with hx | hx | hx
            · simp at hx
              subst hx
              rcases hg4 with h | h
              · exact hgt x (by rw [h]; simp)
              · (try simp at h); omega
            · exact hgt x (List.mem_append_right _ hx)
            · have := hh x hx; omega
          have Y3 := (Y2.alloc (.cells #[.slice p2 R.xValues.length c2] 26)).off hoff (fun hm => by have := hgt _ (List.mem_append_left _ hm); omega)
          have Z3 := (Z2.alloc (.cells #[.slice p2 R.xValues.length c2] 26)).off hoff (fun hm => by have := hgt _ (List.mem_append_left _ hm); omega)
          have B3 : Below w.heap.size w w4 := (B2.alloc B2.size (.cells #[.slice p2 R.xValues.length c2] 26)).trans (hoff.toBelow (by simp; omega) (fun x hx => by have := hgt x (List.mem_append_left _ hx); omega))
          rw [← HT.out] at R3
          have OO : ∀ W, Off [w.heap.size + 1] w4 W → Blk W (w.heap.size + 1) 55 #[.int .i64 0, .slice (some ⟨g, 0, none⟩) (k + 1) cap] → (k + 1 ≤ n ∧ Value.int .i64 ((k : Int) + 1) = .int .i64 ((k + 1 : Nat) : Int) ∧ Blk W w.heap.size 55 #[.int .i64 0, .slice none 0 0] ∧ Blk W (w.heap.size + 1) 55 #[.int .i64 0, .slice (some ⟨g, 0, none⟩) (k + 1) cap] ∧ Own W 26 1 (.slice (some ⟨g, 0, none⟩) (k + 1) cap) (k + 1) (vs ++ [.slice p2 R.xValues.length c2]) [g] ∧ Rows W (vs ++ [.slice p2 R.xValues.length c2]) ((manyV who by' xs).take (k + 1)) (bi ++ [b2]) ∧ ([g] ++ (bi ++ [b2]).flatten).Nodup ∧ (∀ x ∈ [g] ++ (bi ++ [b2]).flatten, w.heap.size + 1 < x) ∧ Below w.heap.size w W ∧ Hid (∀ j, j < k + 1 → (openR (xs.getD j zM).xQ (xs.getD j zM).xViews who by').xCode = 0)) := fun W OO ZW => ⟨by omega, by rw [Int.natCast_add]; rfl, Y3.off OO (by simp), ZW, Own.off hO4 OO (fun x hx hm => by have := zg x (List.mem_append_left _ hx); simp at hm; omega), R3.off OO (fun x hx hm => by have := zg x (List.mem_append_right _ hx); simp at hm; omega), N3, zg, B3.trans (OO.toBelow B3.size (by simp)), HNC⟩
          have za3 := Z3.at.1
          have zb3 := Z3.at.2
          clear hI2 hI3 hR2 hR3 hoff Y2 Z2 B2 hnd hgt lt0 lt1 ltI hh
          go_wp2
          go_roundw
          case rel => exact ⟨k + 1, _, _, _, _, OO _ ((Off.refl _ _).setCell _ _ (by simp)) (Blk.of_eq (Z3.set 1 _) (by simp))⟩
          case measure => simp [intOf]; omega
        · have e0 : (R.xCode != 0) = true := by simpa using hc
          have hcx := HFC.out hc
          have hcz : manyC who by' xs ≠ 0 := by rw [hcx]; exact hc
          have HRES : Hid (openManyR xs who by' = ⟨R.xCode, []⟩) := by show _ = _; rw [openManyR_bad (by rw [HN.out]; exact H20.out) hcz, hcx]
          clear hc hcx hcz HFC HNX
          rw [← HG3.out] at Y2 B2
          go_wp2_with (refine wpList_store_blk rfl 55 _ _ rfl w.heap.size #[.int .i64 R.xCode, .slice none 0 0] rfl rfl Y2 rfl (by kernel_rfl) (by kernel_rfl) ?_; intro w9 Y9 O9)
          exact bodyPost_ret (v := .agg #[.int .i64 R.xCode, .slice none 0 0]) (results_blk Try.results28 rfl Y9 Try.underlying55 rfl (by kernel_rfl)) rfl (by rw [HRES.out]; exact OutTab.bad _ (B2.trans (O9.toBelow B2.size (by simp))))
      · obtain rfl : k = n := by omega
        have e : (manyV who by' xs).take k = manyV who by' xs := List.take_of_length_le (by rw [HVL.out]; omega)
        rw [e] at hR
        have HRES : Hid (openManyR xs who by' = ⟨0, manyV who by' xs⟩) := openManyR_ok (by rw [HN.out]; exact H20.out) (manyC_all who by' xs (by rw [HN.out]; exact HC.out))
        have hM : Mat wr (.slice po k co) (manyV who by' xs) (bo ++ bi.flatten) := ⟨vs, bo, bi, by rw [HVL.out]; exact hO, hR, rfl, hnd⟩
        clear hO hR e
        go_wp2_with (first | (refine wpList_load_blk rfl 55 _ rfl (w.heap.size + 1) rfl Z Try.underlying55 rfl (by kernel_rfl) ?_) | (refine wpList_store_blk rfl 55 _ _ rfl w.heap.size #[.int .i64 0, .slice po k co] rfl rfl Y rfl (by kernel_rfl) (by kernel_rfl) ?_; intro w9 Y9 O9))
        exact bodyPost_ret (v := .agg #[.int .i64 0, .slice po k co]) (results_blk Try.results28 rfl Y9 Try.underlying55 rfl (by kernel_rfl)) rfl (by rw [HRES.out]; exact ⟨_, bo ++ bi.flatten, rfl, ⟨po, co, by dsimp only; rw [HVL.out], by dsimp only; rw [HVL.out]; exact hM.off O9 (fun y hy hm => by have := hgt y hy; simp at hm; omega)⟩, fun y hy => by have := hgt y hy; omega, B.trans (O9.toBelow B.size (by simp))⟩)
end Go.Proofs.Ytcnbkdpmcohlgam
