/-
  Lists of mirrors in memory: the laws' helpers that compare, mark and hold them.
-/
import Derived.Test.YtepobckhfodngaoGreatMrS
import Derived.Deep.RegionHeld3
namespace Go.Proofs.YtepobckhfodngaoGreat
open Go.ChangeShapes Go.WideShapes Go.ChangeAt Go.RowKit
set_option linter.unusedVariables false

theorem four_keep {w w' : World} {a b c d : Addr} {s t u v : Value} (h : (w.cell? a = some s ∧ w.cell? b = some t) ∧ (w.cell? c = some u ∧ w.cell? d = some v)) (hb : Below w.heap.size w w') : (w'.cell? a = some s ∧ w'.cell? b = some t) ∧ (w'.cell? c = some u ∧ w'.cell? d = some v) :=
  ⟨two_keep h.1 hb, two_keep h.2 hb⟩
set_option maxHeartbeats 2000000 in
set_option maxRecDepth 100000 in
theorem eqMirrorS_rd (v u : Value) (xs : List MMirror) (w : World) (hv : RdMirrorS w v xs) (hu : RdMirrorS w u xs) :
    Calls Tryz.prog 23 #[v, u] w fun e w' => e = .returned (.bool true) ∧ Below w.heap.size w w' := by
  obtain ⟨a, ca, rfl, hm, hA⟩ := hv
  obtain ⟨b, cb, rfl, _, hB⟩ := hu
  unfold maxLen at hm
  by_cases hx : xs = []
  · subst hx
    simp only [List.length_nil]
    go_enter Tryz.func23, Tryz.ntmps23
    go_wp2
    refine wp_loop_rounds 1 ?_
    rw [rounds_succ]
    go_wp2
    go_ret
    exact ⟨rfl, Below.refl _ _⟩
  · obtain ⟨ga, oa, rfl, hla, cA⟩ := hA hx
    obtain ⟨gb, ob, rfl, hlb, cB⟩ := hB hx
    clear hA hB
    generalize hn : xs.length = n at *
    clear hn
    go_enter Tryz.func23, Tryz.ntmps23
    go_wp2
    go_loopw [5] (fun i wr => ∃ k : Nat, k ≤ n ∧ i = .int .i64 k ∧ Below w.heap.size w wr) (fun i _ => n - (intOf i).toNat)
    case atStart => exact ⟨0, Nat.zero_le _, rfl, Below.refl _ _⟩
    case round =>
      obtain ⟨k, hk, rfl, hbel⟩ := hrel
      by_cases hlt : k < n
      · obtain ⟨p1, q1, c1, d1, r1⟩ := cA k hlt
        obtain ⟨p2, q2, c2, d2, r2⟩ := cB k hlt
        have hS0 := (And.intro (two_keep ⟨c1, d1⟩ hbel) (two_keep ⟨c2, d2⟩ hbel))
        have R1 := (r1.below hbel).below (Below.refl _ _).drew
        have R2 := (r2.below hbel).below (Below.refl _ _).drew
        have hi : (k : Int) < (n : Int) := by omega
        have hi0 : (0 : Int) ≤ (k : Int) := by omega
        clear c1 c2 d1 d2 r1 r2 cA cB
        generalize xs.getD k zM = x at *
        have HR1 : Hid (RdMirror wr.drew (.agg #[.int .i64 x.xQ, .slice p1 x.xViews.length q1]) x) := ⟨p1, q1, rfl, R1⟩
        have HR2 : Hid (RdMirror wr.drew (.agg #[.int .i64 x.xQ, .slice p2 x.xViews.length q2]) x) := ⟨p2, q2, rfl, R2⟩
        clear R1 R2
        go_wp2_with fail
        go_region_held3 (fun w' => (w'.cell? ⟨ga, oa + k * 2, none⟩ = some (.int .i64 x.xQ) ∧ w'.cell? ⟨ga, oa + k * 2 + 1, none⟩ = some (.slice p1 x.xViews.length q1)) ∧ (w'.cell? ⟨gb, ob + k * 2, none⟩ = some (.int .i64 x.xQ) ∧ w'.cell? ⟨gb, ob + k * 2 + 1, none⟩ = some (.slice p2 x.xViews.length q2))) (first | exact hS0 | exact hS1) (first | (go_at_call 13; refine (eqMirror_rd _ _ x wr.drew HR1.out HR2.out).mono ?_; rintro e w1 ⟨rfl, k1⟩; have hS1 := four_keep (w := wr.drew) hS0 k1))
        have hb2 := bcall hbel.drew k1 hbel.size
        go_wp2
        go_roundw
        case rel => exact ⟨k + 1, by omega, by go_num, hb2⟩
        case measure => simp [intOf]; omega
      · go_wp2
        go_ret
        exact ⟨rfl, hbel⟩
/-- marks mirror by mirror -/
def mkMirrorS (k : Int) : List MMirror → List MMirror
  | [] => []
  | x :: r => ⟨k, marksM (k + 1) x.xViews⟩ :: mkMirrorS (k + 1 + (sl x.xViews : Nat)) r
theorem mkMirrorS_length : ∀ (k : Int) (xs : List MMirror), (mkMirrorS k xs).length = xs.length
  | _, [] => rfl
  | k, x :: r => by simp [mkMirrorS, mkMirrorS_length]
theorem mkMirrorS_getD : ∀ (k : Int) (xs : List MMirror) (i : Nat), i < xs.length → (mkMirrorS k xs).getD i zM = ⟨k + (smC (xs.take i) : Nat), marksM (k + (smC (xs.take i) : Nat) + 1) (xs.getD i zM).xViews⟩
  | k, [], i, h => by simp at h
  | k, x :: r, 0, _ => by simp [mkMirrorS, smC]
  | k, x :: r, i + 1, h => by
    have := mkMirrorS_getD (k + 1 + (sl x.xViews : Nat)) r i (by simpa using h)
    simp only [mkMirrorS, List.getD_cons_succ, List.take_succ_cons, smC]
    rw [this]
    have e : k + 1 + (sl x.xViews : Nat) + (smC (r.take i) : Nat) = k + ((1 + sl x.xViews + smC (r.take i) : Nat) : Int) := by omega
    rw [e]
def mixMS (k : Int) (xs : List MMirror) (j : Nat) : List MMirror := (mkMirrorS k xs).take j ++ xs.drop j
theorem mixMS_length (k : Int) (xs : List MMirror) (j : Nat) (h : j ≤ xs.length) : (mixMS k xs j).length = xs.length := by
  simp [mixMS, mkMirrorS_length]; omega
theorem mixMS_set (k : Int) (xs : List MMirror) (j : Nat) (h : j < xs.length) : (mixMS k xs j).set j ((mkMirrorS k xs).getD j zM) = mixMS k xs (j + 1) := by
  have hl : j < (mkMirrorS k xs).length := by rw [mkMirrorS_length]; exact h
  unfold mixMS
  have e : ((mkMirrorS k xs).take j).length = j := by simp [mkMirrorS_length]; omega
  have hg : (mkMirrorS k xs).getD j zM = (mkMirrorS k xs)[j] := by simp [hl]
  rw [List.set_append_right _ _ (by omega), e, Nat.sub_self, List.drop_eq_getElem_cons h, List.set_cons_zero, List.take_succ_eq_append_getElem hl, hg]
  simp only [List.append_assoc, List.singleton_append]
theorem mixMS_getD (k : Int) (xs : List MMirror) (j : Nat) (h : j < xs.length) : (mixMS k xs j).getD j zM = xs.getD j zM := by
  have hl : ((mkMirrorS k xs).take j).length = j := by simp [mkMirrorS_length]; omega
  unfold mixMS
  rw [List.getD_eq_getElem?_getD, List.getElem?_append_right (by omega), hl, Nat.sub_self]
  simp
/-- one mirror's views are written anew, its Q told otherwise; the others stay -/
theorem MsR.upd {w w' : World} : ∀ {us : List Value} {xs : List MMirror} {bi : List (List Nat)} {i : Nat} {u : Value} {b : List Nat} {y : MMirror}, MsR w us xs bi → i < xs.length → us[i]? = some u → bi[i]? = some b → Off b w w' → Mat w' u y.xViews b → bi.flatten.Nodup → MsR w' us (xs.set i y) bi
  | [], [], [], i, _, _, _, _, hi, _, _, _, _, _ => by simp at hi
  | v :: us, x :: xs, b :: bi, 0, _, _, y, h, _, hv, hb, ho, hn, hd => by
    simp at hv hb
    subst hv hb
    rw [List.flatten_cons, List.nodup_append] at hd
    exact ⟨hn, h.2.off ho fun g hg hm => hd.2.2 g hm g hg rfl⟩
  | v :: us, x :: xs, b :: bi, i + 1, _, b', y, h, hi, hv, hb, ho, hn, hd => by
    simp at hv hb hi
    rw [List.flatten_cons, List.nodup_append] at hd
    exact ⟨h.1.off ho fun g hg hm => hd.2.2 g hg g (mem_flat hb hm) rfl, MsR.upd h.2 hi hv hb ho hn hd.2.1⟩
theorem msC_set : ∀ {us : List Value} {xs : List MMirror} (i : Nat) (y : MMirror), us.length = xs.length → i < xs.length → msC us (xs.set i y) = (msC us xs).set (i * 2) (.int .i64 y.xQ)
  | [], [], i, _, _, hi => by simp at hi
  | u :: us, x :: xs, 0, y, h, _ => by simp [msC]
  | u :: us, x :: xs, i + 1, y, h, hi => by
    have := msC_set (us := us) (xs := xs) i y (by simpa using h) (by simpa using hi)
    rw [show (i + 1) * 2 = i * 2 + 1 + 1 by omega]
    simp [msC, this]
set_option maxHeartbeats 2000000 in
theorem markMirrorS_ow (v : Value) (xs : List MMirror) (bs : List Nat) (k : Int) (w : World) (hv : OwMirrorS w v xs bs) (hk : 0 ≤ k) (hk' : k + (cntMirrorS xs : Nat) ≤ 536870912) :
    Calls Tryz.prog 24 #[v, .int .i64 k] w fun e w' => e = .returned (.int .i64 (k + (cntMirrorS xs : Nat))) ∧ OwMirrorS w' v (mkMirrorS k xs) bs ∧ Off bs w w' := by
  obtain ⟨us, bo, bi, hO, hR, rfl, hd⟩ := hv
  have hm := Own.le hO
  unfold maxLen at hm
  have HC : Hid (cntMirrorS xs = smC xs) := rfl
  by_cases hx : xs = []
  · subst hx
    obtain ⟨a, cap, rfl⟩ := Own.value hO
    simp only [List.length_nil] at *
    go_enter Tryz.func24, Tryz.ntmps24
    go_wp2
    refine wp_loop_rounds 1 ?_
    rw [rounds_succ]
    go_wp2
    go_ret
    exact ⟨by simp [cntMirrorS, smC], ⟨us, bo, bi, hO, hR, rfl, hd⟩, Off.refl _ _⟩
  · obtain ⟨g, cap, rfl, rfl, hc1, hc2⟩ := Own.shape hO (List.length_pos_iff.2 hx)
    have hlen := hR.len
    have hd2 := (List.nodup_append.1 hd).2.1
    have hng : g ∉ bi.flatten := fun hm => (List.nodup_append.1 hd).2.2 g (by simp) g hm rfl
    have HLU : Hid (us.length = xs.length) := hlen.1
    clear hlen
    generalize hn : xs.length = n at *
    have HN : Hid (xs.length = n) := hn
    clear hn
    go_enter Tryz.func24, Tryz.ntmps24
    go_wp2
    go_loopw [1, 5] (fun m i wr => ∃ j : Nat, j ≤ n ∧ i = .int .i64 j ∧ m = .int .i64 (k + (smC (xs.take j) : Nat)) ∧ Own wr 36 2 (.slice (some ⟨g, 0, none⟩) n cap) n (msC us (mixMS k xs j)) [g] ∧ MsR wr us (mixMS k xs j) bi ∧ Off ([g] ++ bi.flatten) w wr) (fun _ i _ => n - (intOf i).toNat)
    case atStart => exact ⟨0, Nat.zero_le _, rfl, by simp [smC], by simpa [mixMS] using hO, by simpa [mixMS] using hR, Off.refl _ _⟩
    case round =>
      obtain ⟨j, hj, rfl, rfl, hOr, hrows, hoff⟩ := hrel
      by_cases hlt : j < n
      · have HML : Hid ((mixMS k xs j).length = n) := by show _ = _; rw [mixMS_length k xs j (by rw [HN.out]; omega)]; exact HN.out
        obtain ⟨u, b, hu, hb, hI⟩ := hrows.get j (by rw [HML.out]; exact hlt)
        rw [mixMS_getD k xs j (by rw [HN.out]; exact hlt)] at hI
        obtain ⟨p, c, rfl⟩ := Mat.value hI
        have HS : Hid (smC (xs.take (j + 1)) = smC (xs.take j) + (1 + sl (xs.getD j zM).xViews)) := smC_take xs j (by rw [HN.out]; exact hlt)
        have HL := smC_le xs (j + 1)
        rw [HS.out, ← HC.out] at HL
        have HM : Hid ((mkMirrorS k xs).getD j zM = ⟨k + (smC (xs.take j) : Nat), marksM (k + (smC (xs.take j) : Nat) + 1) (xs.getD j zM).xViews⟩) := mkMirrorS_getD k xs j (by rw [HN.out]; exact hlt)
        have HST : Hid ((mixMS k xs j).set j ((mkMirrorS k xs).getD j zM) = mixMS k xs (j + 1)) := mixMS_set k xs j (by rw [HN.out]; exact hlt)
        have hlu : us.length = (mixMS k xs j).length := by rw [HLU.out, HML.out]
        have HCS : Hid (∀ y : MMirror, msC us ((mixMS k xs j).set j y) = (msC us (mixMS k xs j)).set (j * 2) (.int .i64 y.xQ)) := fun y => msC_set j y hlu (by rw [HML.out]; exact hlt)
        have HGC := (show Hid _ from msC_get hlu j (by rw [HML.out]; exact hlt))
        have hi : (j : Int) < (n : Int) := by omega
        have c0 : ∃ z, wr.cell? ⟨g, j * 2, none⟩ = some z := ⟨_, (Own.cell hOr (j * 2) (by omega)).trans HGC.out.1⟩
        obtain ⟨z0, c0⟩ := c0
        have f0 : wr.frozen? ⟨g, j * 2, none⟩ = false := Own.frozen hOr (j * 2)
        have c1 : wr.cell? ⟨g, j * 2 + 1, none⟩ = some (.slice p (xs.getD j zM).xViews.length c) := by rw [Own.cell hOr (j * 2 + 1) (by omega), HGC.out.2]; exact hu
        have hset := Own.set hOr (j * 2) (.int .i64 (k + (smC (xs.take j) : Nat)))
        have hq : Off [g] wr (wr.setCell ⟨g, j * 2, none⟩ (.int .i64 (k + (smC (xs.take j) : Nat)))) := (Off.refl _ _).setCell _ _ (by simp)
        have hI1 := hI.off hq (fun y hy hm => by simp at hm; exact hng (hm ▸ mem_flat hb hy))
        have hrows1 := hrows.off hq (fun y hy hm => by simp at hm; exact hng (hm ▸ hy))
        have hoff1 := hoff.trans (hq.mono (by simp))
        clear hOr hrows hI hlu hq HGC hoff
        generalize xs.getD j zM = x at *
        generalize smC (xs.take j) = s at *
        go_wp2_with fail
        refine (markInt64SS_all _ (k + s + 1) x.xViews b _ hI1 (by omega) (by omega) (by omega)).mono ?_
        rintro e w2 ⟨rfl, hI2, ho2⟩
        have hrows2 : MsR w2 us (mixMS k xs (j + 1)) bi := by
          rw [← HST.out, HM.out]
          exact hrows1.upd (by rw [HML.out]; exact hlt) hu hb ho2 hI2 hd2
        have hOr2 : Own w2 36 2 (.slice (some ⟨g, 0, none⟩) n cap) n (msC us (mixMS k xs (j + 1))) [g] := by
          rw [← HST.out, HM.out, HCS.out]
          exact hset.off ho2 (fun y hy hm => by simp at hy; subst hy; exact hng (mem_flat hb hm))
        have hoff2 := hoff1.trans (ho2.mono (fun g hg => List.mem_append_right _ (mem_flat hb hg)))
        clear hI1 hI2 ho2 hrows1 hoff1 hset c0 f0 c1 hu
        go_wp2
        go_roundw
        case rel => exact ⟨j + 1, by omega, by go_num, by rw [HS.out]; go_num, hOr2, hrows2, hoff2⟩
        case measure => simp [intOf]; omega
      · obtain rfl : j = n := by omega
        have hall : xs.take j = xs := List.take_of_length_le (by rw [HN.out]; omega)
        have hmix : mixMS k xs j = mkMirrorS k xs := by
          unfold mixMS
          rw [List.take_of_length_le (by rw [mkMirrorS_length, HN.out]; omega), List.drop_eq_nil_of_le (by rw [HN.out]; omega), List.append_nil]
        rw [hall]
        rw [hmix] at hrows hOr
        clear hall hmix
        go_wp2
        go_ret
        exact ⟨by rw [HC.out]; rfl, ⟨us, [g], bi, by rw [mkMirrorS_length, HN.out]; exact hOr, hrows, rfl, hd⟩, hoff⟩
set_option maxHeartbeats 2000000 in
theorem heldMirrorS_rd (v : Value) (xs : List MMirror) (k : Int) (w : World) (hv : RdMirrorS w v (mkMirrorS k xs)) (hk : 0 ≤ k) (hk' : k + (cntMirrorS xs : Nat) ≤ 536870912) :
    Calls Tryz.prog 58 #[v, .int .i64 k] w fun e w' => e = .returned (.int .i64 (k + (cntMirrorS xs : Nat))) ∧ Below w.heap.size w w' := by
  obtain ⟨a, ca, rfl, hm, hA⟩ := hv
  rw [mkMirrorS_length] at *
  unfold maxLen at hm
  have HC : Hid (cntMirrorS xs = smC xs) := rfl
  by_cases hx : xs = []
  · subst hx
    simp only [List.length_nil]
    go_enter Tryz.func58, Tryz.ntmps58
    go_wp2
    refine wp_loop_rounds 1 ?_
    rw [rounds_succ]
    go_wp2
    go_ret
    exact ⟨by simp [cntMirrorS, smC], Below.refl _ _⟩
  · obtain ⟨g, o, rfl, hlt0, cA⟩ := hA (by intro h; have := mkMirrorS_length k xs; rw [h] at this; simp at this; exact hx (List.eq_nil_of_length_eq_zero this.symm))
    clear hA
    generalize hn : xs.length = n at *
    have HN : Hid (xs.length = n) := hn
    clear hn
    go_enter Tryz.func58, Tryz.ntmps58
    go_wp2
    go_loopw [1, 5] (fun m i wr => ∃ j : Nat, j ≤ n ∧ i = .int .i64 j ∧ m = .int .i64 (k + (smC (xs.take j) : Nat)) ∧ Below w.heap.size w wr) (fun _ i _ => n - (intOf i).toNat)
    case atStart => exact ⟨0, Nat.zero_le _, rfl, by simp [smC], Below.refl _ _⟩
    case round =>
      obtain ⟨j, hj, rfl, rfl, hbel⟩ := hrel
      by_cases hlt : j < n
      · obtain ⟨p, c, c0, c1, hr⟩ := cA j hlt
        have e := mkMirrorS_getD k xs j (by rw [HN.out]; exact hlt)
        have HS : Hid (smC (xs.take (j + 1)) = smC (xs.take j) + (1 + sl (xs.getD j zM).xViews)) := smC_take xs j (by rw [HN.out]; exact hlt)
        have HL := smC_le xs (j + 1)
        rw [HS.out, ← HC.out] at HL
        rw [e] at c0 c1 hr
        dsimp only at c0 c1 hr
        rw [marksM_length] at c1 hr
        have c0' := (hbel.cell (p := ⟨g, o + j * 2, none⟩) hlt0).trans c0
        have c1' := (hbel.cell (p := ⟨g, o + j * 2 + 1, none⟩) hlt0).trans c1
        have hr' := hr.below hbel
        have hi : (j : Int) < (n : Int) := by omega
        clear cA c0 c1 hr e
        generalize (xs.getD j zM).xViews = ys at *
        generalize smC (xs.take j) = s at *
        have ez : ((k + (s : Int)) != (k + (s : Int))) = false := by simp
        go_wp2_with fail
        refine (heldInt64SS_all _ (k + s + 1) ys _ hr' (by omega) (by omega) (by omega)).mono ?_
        rintro e w2 ⟨rfl, hb2⟩
        have hb3 := bcall hbel hb2 hbel.size
        have en : decide (k + (s : Int) + 1 + (sl ys : Nat) < 0) = false := by simp; omega
        go_wp2
        go_roundw
        case rel => exact ⟨j + 1, by omega, by go_num, by rw [HS.out]; go_num, hb3⟩
        case measure => simp [intOf]; omega
      · obtain rfl : j = n := by omega
        have hall : xs.take j = xs := List.take_of_length_le (by rw [HN.out]; omega)
        rw [hall]
        clear hall
        go_wp2
        go_ret
        exact ⟨by rw [HC.out]; rfl, hbel⟩
end Go.Proofs.YtepobckhfodngaoGreat
