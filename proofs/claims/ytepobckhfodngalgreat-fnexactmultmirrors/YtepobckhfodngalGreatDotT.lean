/-
  Rows of products in the program: what a row is made of.
-/
import Derived.Test.YtepobckhfodngalGreatSpA
import Derived.Test.YtepobckhfodngalGreatMirJ
namespace Go.Proofs.YtepobckhfodngalGreat
open Go.ChangeShapes Go.WideShapes Go.ChangeAt Go.RowKit
set_option linter.unusedVariables false

theorem rangeAt_keepB {w w' : World} {b o : Nat} {cs : List Value} (h : w.rangeAt b o cs) (hl : b < w.heap.size) (hb : Below w.heap.size w w') : w'.rangeAt b o cs := fun j v hv => (hb.cell (p := ⟨b, o + j, none⟩) hl).trans (h j v hv)
theorem there_keepB {w w' : World} {b o n : Nat} (h : w.there b o n) (hl : b < w.heap.size) (hb : Below w.heap.size w w') : w'.there b o n := fun j hj => ⟨by rw [hb.cell (p := ⟨b, o + j, none⟩) hl]; exact (h j hj).1, (hb.frozen (p := ⟨b, o + j, none⟩) hl).trans (h j hj).2⟩
theorem there_part {w : World} {b n : Nat} (h : w.there b 0 n) (o k : Nat) (hk : o + k ≤ n) : w.there b o k := fun j hj => by have := h (o + j) (by omega); simpa using this
theorem Off.setCellsAt {b o : Nat} {w : World} (vs : List Value) : Off [b] w (w.setCells b o vs) := Off.setCells vs o w
theorem Tryz.infoV : (Tryz.prog.info? 87).map (fun i => (i.zero, i.size, i.bytes)) = some (some (.agg #[.int .i64 0, .int .i64 0, .int .i64 0, .int .i64 0, .int .i64 0, .int .i64 0, .int .i64 0, .int .i64 0, .int .i64 0, .int .i64 0, .int .i64 0, .int .i64 0, .int .i64 0, .int .i64 0, .int .i64 0, .int .i64 0]), 16, 128) := by kernel_rfl
set_option maxHeartbeats 4000000 in
set_option maxRecDepth 100000 in
theorem impl_allViewsOf (v : Value) (n : Nat) (xs : List MMirror) (w : World) (hv : RdMirrorS w v xs) (hx : xs.length = n) (hn : 1 ≤ n ∧ n ≤ 6) (sx : ∀ t, t < n → Sq ((vsOf xs).getD t [])) :
    Calls Tryz.prog 99 #[v] w fun e w' => ∃ g c, e = .returned (.slice (some ⟨g, 0, none⟩) n c) ∧ RdVs w' g n (vsOf xs) ∧ w.heap.size ≤ g ∧ Below w.heap.size w w' := by
  obtain ⟨i0, hi, hz0, hz1, hz2⟩ := info_parts Tryz.infoV
  have HRX : Hid (∀ t, t < n → ∃ p c, ∀ W, Below w.heap.size w W → RdMirror W (.agg #[.int .i64 (xs.getD t zM).xQ, .slice p (xs.getD t zM).xViews.length c]) (xs.getD t zM) ∧ ∀ g o ca, v = .slice (some ⟨g, o, none⟩) n ca → W.cell? ⟨g, o + t * 2, none⟩ = some (.int .i64 (xs.getD t zM).xQ) ∧ W.cell? ⟨g, o + t * 2 + 1, none⟩ = some (.slice p (xs.getD t zM).xViews.length c)) := by
    intro t ht
    obtain ⟨a, cap, rfl, _, hr⟩ := hv
    obtain ⟨b, off, rfl, hl, hc⟩ := hr (by intro h; rw [h] at hx; simp at hx; omega)
    obtain ⟨p, c, h0, h1, h2⟩ := hc t (by omega)
    refine ⟨p, c, fun W hb => ⟨⟨p, c, rfl, h2.below hb⟩, fun g o ca e => ?_⟩⟩
    simp only [Value.slice.injEq, Option.some.injEq, Addr.mk.injEq] at e
    obtain ⟨⟨rfl, rfl, _⟩, _, _⟩ := e
    exact ⟨(hb.cell (p := ⟨b, off + t * 2, none⟩) hl).trans h0, (hb.cell (p := ⟨b, off + t * 2 + 1, none⟩) hl).trans h1⟩
  have HSX : Hid (∀ t, t < n → Sq (xs.getD t zM).xViews) := fun t ht => by rw [← vsOf_getD xs t (by omega)]; exact sx t ht
  have HVX : Hid (∀ t, t < n → (vsOf xs).getD t [] = (xs.getD t zM).xViews) := fun t ht => vsOf_getD xs t (by omega)
  have HLL : Hid (∀ t, t < n → (xs.getD t zM).xViews.flatten.length = 16) := fun t ht => flat_len (HSX.out t ht)
  obtain ⟨ga, oa, ca, rfl, la⟩ := hv.shape hx hn.1
  clear hv sx hx
  go_enter Tryz.func99, Tryz.ntmps99
  go_wp2_with (at_make; refine wpList_make_full _ rfl _ _ 102 rfl w.heap.size 87 i0 (.agg #[.int .i64 0, .int .i64 0, .int .i64 0, .int .i64 0, .int .i64 0, .int .i64 0, .int .i64 0, .int .i64 0, .int .i64 0, .int .i64 0, .int .i64 0, .int .i64 0, .int .i64 0, .int .i64 0, .int .i64 0, .int .i64 0]) 16 Tryz.underlying102 hi hz0 hz1 _ _ _ _ n rfl rfl rfl rfl (by rw [hz2]; omega) (by unfold maxLen; omega) (Nat.le_refl _) ?_)
  intro w1 hown hgrow
  have B1 : Below w.heap.size w w1 := (Below.refl _ _).grown hgrow (Nat.le_refl _) (fun k hk => by cases hk)
  have ht1 : w1.there w.heap.size 0 (n * 16) := by
    obtain ⟨bs, h1, -⟩ := Own.of_owns hown
    intro j hj
    rw [Nat.zero_add]
    refine ⟨?_, Own.frozen h1 j⟩
    rw [Own.cell h1 j hj, List.getElem?_eq_getElem (by rw [h1.1]; exact hj)]
    rfl
  have hg1 : w.heap.size < w1.heap.size := by
    obtain ⟨bs, h1, -⟩ := Own.of_owns hown
    obtain ⟨g, c, hb, e, _, _⟩ := Own.shape h1 (by omega)
    simp only [Value.slice.injEq, Option.some.injEq, Addr.mk.injEq] at e
    have := Own.lt h1 g (by rw [hb]; simp)
    omega
  clear hown hgrow
  go_wp2
  go_loopw [11] (fun a wr => ∃ k : Nat, k ≤ n ∧ a = .int .i64 k ∧ (∀ t, t < k → wr.rangeAt w.heap.size (t * 16) (cells1 (xs.getD t zM).xViews.flatten).toList) ∧ wr.there w.heap.size 0 (n * 16) ∧ w.heap.size < wr.heap.size ∧ Below w.heap.size w wr) (fun a _ => n - (intOf a).toNat)
  case atStart => exact ⟨0, Nat.zero_le _, rfl, fun t ht => by omega, ht1, hg1, B1⟩
  case round =>
    clear ht1 hg1 B1
    obtain ⟨k, hk, rfl, hrg, hth, hgl, B⟩ := hrel
    by_cases hlt : k < n
    · obtain ⟨p, c, hpc⟩ := HRX.out k hlt
      have hcc := (hpc wr B).2 ga oa ca rfl
      obtain ⟨c0, c1⟩ := hcc
      have hSq := HSX.out k hlt
      have HFL : Hid ((xs.getD k zM).xViews.flatten.length = 16) := flat_len hSq
      have hi1 : (k : Int) < (n : Int) := by omega
      have hi0 : (0 : Int) ≤ (k : Int) := by omega
      have hA : Below wr.heap.size wr (wr.alloc (.cells #[.int .i64 (xs.getD k zM).xQ, .slice p (xs.getD k zM).xViews.length c] 36)) := (Below.refl _ _).alloc (Nat.le_refl _) _
      have hRM := (hpc _ (B.trans (hA.mono B.size))).1
      have HRG : Hid (∀ t, t < k → wr.rangeAt w.heap.size (t * 16) (cells1 (xs.getD t zM).xViews.flatten).toList) := hrg
      clear hpc hrg
      have KV := impl_viewsOf _ _ _ hRM hSq
      have HVF : Hid (ag2 (xs.getD k zM).xViews = .agg (cells1 (xs.getD k zM).xViews.flatten)) := rfl
      rw [HVF.out] at KV
      have HXK : Hid (∀ t, t < k + 1 → t = k ∨ t < k) := fun t ht => by omega
      generalize hfx : (xs.getD k zM).xViews.flatten = fx at *
      have HFX : Hid ((xs.getD k zM).xViews.flatten = fx) := hfx
      clear hfx hSq hRM HVF
      generalize (xs.getD k zM).xQ = qk at *
      generalize (xs.getD k zM).xViews.length = lk at *
      go_wp2_with fail
      refine KV.mono ?_
      rintro e w2 ⟨rfl, hb2⟩
      have hb12 := hA.trans (hb2.mono hA.size)
      have hth2 := there_keepB hth hgl hb12
      have hgl2 := Nat.lt_of_lt_of_le hgl hb12.size
      have B2 := B.trans (hb12.mono B.size)
      have HRG2 : Hid (∀ t, t < k → w2.rangeAt w.heap.size (t * 16) (cells1 (xs.getD t zM).xViews.flatten).toList) := fun t ht => rangeAt_keepB (HRG.out t ht) hgl hb12
      clear KV hA hb2 hb12 hth hgl B HRG c0 c1
      have htk := there_part hth2 (k * 16) 16 (by omega)
      go_wp2_with (refine wpList_store_mid rfl 87 _ _ rfl w.heap.size (k * 16) (cells1 fx) rfl rfl (by rw [cells1_size, HFL.out]; exact htk) (by rw [cells1_size, HFL.out]; kernel_rfl) (cells1_one _) ?_; have hO : Off [w.heap.size] w2 (w2.setCells w.heap.size (k * 16) (cells1 fx).toList) := Off.setCells _ _ _; have hT := World.there_setCells hth2 w.heap.size (k * 16) (cells1 fx).toList; have hR : ∀ t, t < k + 1 → (w2.setCells w.heap.size (k * 16) (cells1 fx).toList).rangeAt w.heap.size (t * 16) (cells1 (xs.getD t zM).xViews.flatten).toList := (fun t ht => by rcases HXK.out t ht with h | h; (rw [h, HFX.out]; exact World.rangeAt_setCells_same _ _ _ _ (by rw [Array.length_toList, cells1_size, HFL.out]; exact htk)); (exact World.rangeAt_setCells_apart (HRG2.out t h) _ _ _ (.inr (.inl (by rw [Array.length_toList, cells1_size, HLL.out t (by omega)]; omega))))); generalize w2.setCells w.heap.size (k * 16) (cells1 fx).toList = w3 at *)
      have B3 := B2.trans (hO.toBelow B2.size (by simp))
      have hgl3 := Nat.lt_of_lt_of_le hgl2 hO.size
      clear hO hth2 hgl2 B2 HRG2 htk
      go_wp2
      go_roundw
      case rel => exact ⟨k + 1, by omega, by go_num, hR, hT, hgl3, B3⟩
      case measure => simp [intOf]; omega
    · obtain rfl : k = n := by omega
      go_wp2
      go_ret
      exact ⟨w.heap.size, k, rfl, ⟨hgl, fun t ht => ⟨by rw [HVX.out t ht]; exact HSX.out t ht, by rw [HVX.out t ht]; exact hrg t ht⟩⟩, Nat.le_refl _, B⟩
set_option maxHeartbeats 4000000 in
set_option maxRecDepth 100000 in
theorem impl_rowOf (q : Int) (v u : Value) (n : Nat) (xs ys : List MMirror) (w : World) (hv : RdMirrorS w v xs) (hu : RdMirrorS w u ys) (hx : xs.length = n) (hy : ys.length = n) (hn : 1 ≤ n ∧ n ≤ 6) (sx : ∀ t, t < n → Sq ((vsOf xs).getD t [])) (sy : ∀ t, t < n → Sq ((vsOf ys).getD t [])) (hxq : (xs.getD 0 zM).xQ = q) :
    Calls Tryz.prog 65 #[v, u] w fun e w' => ∃ gx cx gy cy, e = .returned (.agg #[.int .i64 q, .slice (some ⟨gx, 0, none⟩) n cx, .slice (some ⟨gy, 0, none⟩) n cy]) ∧ RdVs w' gx n (vsOf xs) ∧ RdVs w' gy n (vsOf ys) ∧ w.heap.size ≤ gx ∧ w.heap.size ≤ gy ∧ Below w.heap.size w w' := by
  have KX := fun W (hb : Below w.heap.size w W) => impl_allViewsOf v n xs W (hv.below hb) hx hn sx
  have KY := fun W (hb : Below w.heap.size w W) => impl_allViewsOf u n ys W (hu.below hb) hy hn sy
  obtain ⟨ga, oa, ca, rfl, la⟩ := hv.shape hx hn.1
  obtain ⟨pu, cu, eu⟩ := hu.shp
  subst eu
  have c0 : w.cell? ⟨ga, oa, none⟩ = some (.int .i64 q) := by
    obtain ⟨a, cap, ev, _, hr⟩ := hv
    simp only [Value.slice.injEq] at ev
    obtain ⟨rfl, _, rfl⟩ := ev
    obtain ⟨b, off, ev, _, hc⟩ := hr (by intro h; rw [h] at hx; simp at hx; omega)
    simp only [Option.some.injEq, Addr.mk.injEq, and_true] at ev
    obtain ⟨rfl, rfl⟩ := ev
    obtain ⟨_, _, h0, _⟩ := hc 0 (by omega)
    rw [hxq] at h0
    simpa using h0
  have hn0 : (0 : Int) < (n : Int) := by omega
  clear hv hu hx hy sx sy hxq
  have B0 : Below w.heap.size w (w.alloc (.cells #[.int .i64 0, .slice none 0 0, .slice none 0 0] 104)) := (by repeat (first | exact Below.refl _ _ | refine Below.drew ?_ | refine below_drewN ?_ _ | refine Below.setCell ?_ (by first | omega | (simp; done) | (simp; omega)) _ | refine Below.alloc ?_ (by first | omega | (simp; done) | (simp; omega)) _))
  have Y0 := Blk.new w 104 #[.int .i64 0, .slice none 0 0, .slice none 0 0]
  have hn1 : 0 < n := by omega
  go_enter Tryz.func65, Tryz.ntmps65
  go_wp2_with fail
  have Yd := Y0.drew
  have Bd := B0.drew
  have HSS : Hid (∀ V, Off [w.heap.size] (w.alloc (.cells #[.int .i64 0, .slice none 0 0, .slice none 0 0] 104)).drew V → V.cell? ⟨ga, oa, none⟩ = some (.int .i64 q)) := fun V O => ((O.at ga (by have := Bd.size; omega) (by simp; omega)).1 _).trans ((B0.drew.cell (p := ⟨ga, oa, none⟩) (show ga < w.heap.size by omega)).trans c0)
  clear c0 Y0 B0
  refine wp_region_held (S := fun V => V.cell? ⟨ga, oa, none⟩ = some (.int .i64 q)) (by kernel_rfl) ?_
  try (change wpAnyH _ _ _ _ _ _ _ _ (World.drew _))
  have hS := HSS.out _ (Off.refl _ _)
  refine wpAnyH_take (i := 0) (v := .slice (some ⟨ga, oa, none⟩) n ca) rfl (by kernel_rfl) (by kernel_rfl) (by kernel_rfl) (fun _ _ _ h => h) (Or.inl ⟨by rfl, ?_⟩) hS ?_
  · intro w' hSw
    go_simp
  (try simp only [List.getElem_toArray]); (try simp only [List.getElem_cons_succ]); (try simp only [List.getElem_cons_zero]); (try simp only [Act.put]); (try simp only [List.setIfInBounds_toArray]); (try simp only [List.set_cons_succ]); (try simp only [List.set_cons_zero])
  refine wpAnyH_take (i := 1) (v := .pointer (some ⟨ga, oa, none⟩)) rfl (by kernel_rfl) (by kernel_rfl) (by kernel_rfl) (fun _ _ _ h => h) (Or.inl ⟨by rfl, ?_⟩) hS ?_
  · intro w' hSw
    go_simp
  (try simp only [List.getElem_toArray]); (try simp only [List.getElem_cons_succ]); (try simp only [List.getElem_cons_zero]); (try simp only [Act.put]); (try simp only [List.setIfInBounds_toArray]); (try simp only [List.set_cons_succ]); (try simp only [List.set_cons_zero])
  refine wpAnyH_take (i := 2) (v := .pointer (some ⟨ga, oa, none⟩)) rfl (by kernel_rfl) (by kernel_rfl) (by kernel_rfl) (fun _ _ _ h => h) (Or.inl ⟨by rfl, ?_⟩) hS ?_
  · intro w' hSw
    go_simp
  (try simp only [List.getElem_toArray]); (try simp only [List.getElem_cons_succ]); (try simp only [List.getElem_cons_zero]); (try simp only [Act.put]); (try simp only [List.setIfInBounds_toArray]); (try simp only [List.set_cons_succ]); (try simp only [List.set_cons_zero])
  refine wpAnyH_take (i := 3) (v := .int .i64 q) rfl (by kernel_rfl) (by kernel_rfl) (by kernel_rfl) (fun _ _ _ h => h) (Or.inl ⟨by rfl, ?_⟩) hS ?_
  · intro w' hSw
    go_simp
  (try simp only [List.getElem_toArray]); (try simp only [List.getElem_cons_succ]); (try simp only [List.getElem_cons_zero]); (try simp only [Act.put]); (try simp only [List.setIfInBounds_toArray]); (try simp only [List.set_cons_succ]); (try simp only [List.set_cons_zero])
  refine wpAnyH_take (i := 4) (v := .slice (some ⟨ga, oa, none⟩) n ca) rfl (by kernel_rfl) (by kernel_rfl) (by kernel_rfl) (fun _ _ _ h => h) (Or.inl ⟨by rfl, ?_⟩) hS ?_
  · intro w' hSw
    go_simp
  (try simp only [List.getElem_toArray]); (try simp only [List.getElem_cons_succ]); (try simp only [List.getElem_cons_zero]); (try simp only [Act.put]); (try simp only [List.setIfInBounds_toArray]); (try simp only [List.set_cons_succ]); (try simp only [List.set_cons_zero])
  refine wpAnyH_take (i := 6) (v := .slice pu ys.length cu) rfl (by kernel_rfl) (by kernel_rfl) (by kernel_rfl) (fun _ _ _ h => h) (Or.inl ⟨by rfl, ?_⟩) hS ?_
  · intro w' hSw
    go_simp
  (try simp only [List.getElem_toArray]); (try simp only [List.getElem_cons_succ]); (try simp only [List.getElem_cons_zero]); (try simp only [Act.put]); (try simp only [List.setIfInBounds_toArray]); (try simp only [List.set_cons_succ]); (try simp only [List.set_cons_zero])
  refine wpAnyH_ready (rs := [5]) (by kernel_rfl) (by simp) ?_
  refine AllReadyH.cons (o := _) rfl (fun K hK => ?_) AllReadyH.nil
  rw [if_pos (by rfl)]
  go_simp
  go_at_call 99
  refine (KX _ Bd).mono ?_
  rintro e w1 ⟨gx, cx, rfl, hX, hgx, hb1⟩
  have Y1 := Yd.keep hb1
  have B1 := Bd.trans (hb1.mono Bd.size)
  dsimp only
  refine hK.out _ _ (HSS.out _ (Off.ofBelow hb1)) (fun hS => ?_)
  clear hK K
  (try simp only [List.getElem_toArray]); (try simp only [List.getElem_cons_succ]); (try simp only [List.getElem_cons_zero]); (try simp only [Act.put]); (try simp only [List.setIfInBounds_toArray]); (try simp only [List.set_cons_succ]); (try simp only [List.set_cons_zero])
  refine wpAnyH_ready (rs := [7]) (by kernel_rfl) (by simp) ?_
  refine AllReadyH.cons (o := _) rfl (fun K hK => ?_) AllReadyH.nil
  rw [if_pos (by rfl)]
  go_simp
  go_at_call 99
  refine (KY _ B1).mono ?_
  rintro e w2 ⟨gy, cy, rfl, hY, hgy, hb2⟩
  have Y2 := Y1.keep hb2
  have B2 := B1.trans (hb2.mono B1.size)
  have hX2 := hX.below hb2
  dsimp only
  refine hK.out _ _ (HSS.out _ ((Off.ofBelow hb1).trans (Off.ofBelow hb2))) (fun hS => ?_)
  clear hK K
  (try simp only [List.getElem_toArray]); (try simp only [List.getElem_cons_succ]); (try simp only [List.getElem_cons_zero]); (try simp only [Act.put]); (try simp only [List.setIfInBounds_toArray]); (try simp only [List.set_cons_succ]); (try simp only [List.set_cons_zero])
  refine wpAnyH_take (i := 8) (v := .agg #[.int .i64 q, .slice (some ⟨gx, 0, none⟩) n cx, .slice (some ⟨gy, 0, none⟩) n cy]) rfl (by kernel_rfl) (by kernel_rfl) (by kernel_rfl) (fun _ _ _ h => h) (Or.inl ⟨by rfl, ?_⟩) hS ?_
  · intro w' hSw
    go_simp
  (try simp only [List.getElem_toArray]); (try simp only [List.getElem_cons_succ]); (try simp only [List.getElem_cons_zero]); (try simp only [Act.put]); (try simp only [List.setIfInBounds_toArray]); (try simp only [List.set_cons_succ]); (try simp only [List.set_cons_zero])
  refine wpAnyH_ready (rs := [9]) (by kernel_rfl) (by simp) ?_
  refine AllReadyH.cons (o := _) rfl (fun K hK => ?_) AllReadyH.nil
  refine step_store_blk rfl 104 _ _ rfl w.heap.size #[.int .i64 q, .slice (some ⟨gx, 0, none⟩) n cx, .slice (some ⟨gy, 0, none⟩) n cy] rfl rfl Y2 rfl (by kernel_rfl) (by kernel_rfl) ?_
  intro w3 Y3 O3
  refine hK.out _ _ (HSS.out _ (((Off.ofBelow hb1).trans (Off.ofBelow hb2)).trans O3)) (fun hS => ?_)
  clear hK K
  (try simp only [List.getElem_toArray]); (try simp only [List.getElem_cons_succ]); (try simp only [List.getElem_cons_zero]); (try simp only [Act.put]); (try simp only [List.setIfInBounds_toArray]); (try simp only [List.set_cons_succ]); (try simp only [List.set_cons_zero])
  refine wpAnyH_done (by kernel_rfl) ?_ _
  clear hS
  try go_wp2
  simp only [World.size_drew, World.size_alloc] at hgx
  have hgy2 : w.heap.size + 1 ≤ gy := by have := hb1.size; simp at this; omega
  exact bodyPost_ret (v := .agg #[.int .i64 q, .slice (some ⟨gx, 0, none⟩) n cx, .slice (some ⟨gy, 0, none⟩) n cy]) (results_blk Tryz.results65 rfl Y3 Tryz.underlying104 rfl (by kernel_rfl)) rfl ⟨gx, cx, gy, cy, rfl, hX2.off O3 (by simp; omega), hY.off O3 (by simp; omega), by omega, by omega, B2.trans (O3.toBelow B2.size (by simp))⟩
end Go.Proofs.YtepobckhfodngalGreat
