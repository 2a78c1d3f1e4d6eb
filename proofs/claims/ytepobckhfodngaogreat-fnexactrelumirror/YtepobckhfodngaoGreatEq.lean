/-
  Contracts of the laws' own helpers on lists of whole numbers: comparing, marking, holding, copying.
-/
import Derived.Test.YtepobckhfodngaoGreatMem
import Derived.Deep.QuietTactic
import Derived.BigQuiet
import Derived.WalkSmall
import Derived.WalkSpells
namespace Go.Proofs.YtepobckhfodngaoGreat
open Go.ChangeShapes Go.WideShapes Go.ChangeAt Go.RowKit
set_option linter.unusedVariables false

set_option maxHeartbeats 400000 in
theorem eqInt64S_same (v u : Value) (xs : List Int) (w : World) (hv : Reads w .i64 v xs) (hu : Reads w .i64 u xs) :
    Calls Tryz.prog 45 #[v, u] w fun e w' => e = .returned (.bool true) ∧ Below w.heap.size w w' := by
  obtain ⟨a, ca, rfl, hm, hA⟩ := hv
  obtain ⟨b, cb, rfl, _, hB⟩ := hu
  unfold maxLen at hm
  by_cases hx : xs = []
  · subst hx
    simp only [List.length_nil]
    go_enter Tryz.func45, Tryz.ntmps45
    go_wp2
    refine wp_loop_rounds 1 ?_
    rw [rounds_succ]
    go_wp2
    go_ret
    exact ⟨rfl, Below.refl _ _⟩
  · obtain ⟨ga, oa, rfl, hla, cA⟩ := hA hx
    obtain ⟨gb, ob, rfl, hlb, cB⟩ := hB hx
    generalize hn : xs.length = n at *
    go_enter Tryz.func45, Tryz.ntmps45
    go_wp2
    go_loopw [5] (fun i wr => ∃ k : Nat, k ≤ n ∧ i = .int .i64 k ∧ Below w.heap.size w wr) (fun i _ => n - (intOf i).toNat)
    case atStart => exact ⟨0, Nat.zero_le _, rfl, Below.refl _ _⟩
    case round =>
      obtain ⟨k, hk, rfl, hbel⟩ := hrel
      by_cases hlt : k < n
      · have c1 : wr.cell? ⟨ga, oa + k, none⟩ = some (.int .i64 (xs.getD k 0)) := (hbel.cell (p := ⟨ga, oa + k, none⟩) hla).trans (cA k hlt)
        have c2 : wr.cell? ⟨gb, ob + k, none⟩ = some (.int .i64 (xs.getD k 0)) := (hbel.cell (p := ⟨gb, ob + k, none⟩) hlb).trans (cB k hlt)
        have hi : (k : Int) < (n : Int) := by omega
        go_wp2
        go_quiet (fail)
        go_wp2
        go_roundw
        case rel => exact ⟨k + 1, by omega, by go_num, below_drewN hbel _⟩
        case measure => simp [intOf]; omega
      · go_wp2
        go_ret
        exact ⟨rfl, hbel⟩

/-- k, k + 1, .. : as many as there are -/
def marks (k : Int) : Nat → List Int
  | 0 => []
  | n + 1 => k :: marks (k + 1) n
theorem marks_length (k : Int) (n : Nat) : (marks k n).length = n := by
  induction n generalizing k with
  | zero => rfl
  | succ n ih => simp [marks, ih]
theorem marks_getD (k : Int) (n i : Nat) (h : i < n) : (marks k n).getD i 0 = k + i := by
  induction n generalizing k i with
  | zero => omega
  | succ n ih =>
    cases i with
    | zero => simp [marks]
    | succ i => simp only [marks, List.getD_cons_succ]; rw [ih (k + 1) i (by omega)]; omega
theorem marks_set (k : Int) (n i : Nat) (xs : List Int) (h : i < n) (hx : xs.length = n) : ((marks k i ++ xs.drop i).set i (k + i)) = marks k (i + 1) ++ xs.drop (i + 1) := by
  apply List.ext_getElem?
  intro j
  have e1 : ∀ (m : Nat), (marks k m).length = m := marks_length k
  rcases Nat.lt_trichotomy j i with hj | hj | hj
  · rw [List.getElem?_set_ne (by omega), List.getElem?_append_left (by rw [e1]; omega), List.getElem?_append_left (by rw [e1]; omega)]
    have a1 := marks_getD k i j hj
    have a2 := marks_getD k (i + 1) j (by omega)
    rw [List.getD_eq_getElem?_getD] at a1 a2
    rw [List.getElem?_eq_getElem (by rw [e1]; omega)] at a1 a2 ⊢
    rw [List.getElem?_eq_getElem (by rw [e1]; omega)]
    simp at a1 a2
    rw [a1, a2]
  · subst hj
    rw [List.getElem?_set_self (by simp [e1]; omega), List.getElem?_append_left (by rw [e1]; omega)]
    have a2 := marks_getD k (j + 1) j (by omega)
    rw [List.getD_eq_getElem?_getD, List.getElem?_eq_getElem (by rw [e1]; omega)] at a2
    rw [List.getElem?_eq_getElem (by rw [e1]; omega)]
    simp at a2
    rw [a2]
  · rw [List.getElem?_set_ne (by omega), List.getElem?_append_right (by rw [e1]; omega), List.getElem?_append_right (by rw [e1]; omega), e1, e1]
    simp only [List.getElem?_drop]
    congr 1
    omega

set_option maxHeartbeats 400000 in
theorem markInt64S_all (v : Value) (xs : List Int) (bs : List Nat) (k : Int) (w : World) (hv : Ints w v xs bs) (hk : 0 ≤ k) (hk' : k ≤ 1073741824) (hl : xs.length ≤ 1073741824) :
    Calls Tryz.prog 50 #[v, .int .i64 k] w fun e w' => e = .returned (.int .i64 (k + xs.length)) ∧ Ints w' v (marks k xs.length) bs ∧ Off bs w w' := by
  obtain ⟨te, hv⟩ := hv
  by_cases hx : xs = []
  · subst hx
    obtain ⟨a, cap, rfl⟩ := Own.value hv
    simp only [List.length_nil] at *
    go_enter Tryz.func50, Tryz.ntmps50
    go_wp2
    refine wp_loop_rounds 1 ?_
    rw [rounds_succ]
    go_wp2
    go_ret
    exact ⟨by simp, ⟨te, hv⟩, Off.refl _ _⟩
  · obtain ⟨g, cap, rfl, rfl, hc1, hc2⟩ := Own.shape hv (List.length_pos_iff.2 hx)
    generalize hn : xs.length = n at *
    go_enter Tryz.func50, Tryz.ntmps50
    go_wp2
    go_loopw [1, 5] (fun m i wr => ∃ j : Nat, j ≤ n ∧ i = .int .i64 j ∧ m = .int .i64 (k + j) ∧ Own wr te 1 (.slice (some ⟨g, 0, none⟩) n cap) n ((marks k j ++ xs.drop j).map (Value.int .i64)) [g] ∧ Off [g] w wr) (fun _ i _ => n - (intOf i).toNat)
    case atStart => exact ⟨0, Nat.zero_le _, rfl, by simp, by rw [← hn] at hv ⊢; simpa [marks] using hv, Off.refl _ _⟩
    case round =>
      obtain ⟨j, hj, rfl, rfl, hown, hoff⟩ := hrel
      by_cases hlt : j < n
      · have c1 : wr.cell? ⟨g, j, none⟩ = some (.int .i64 (xs.getD j 0)) := by
          rw [Own.cell hown j (by omega)]
          have : j < xs.length := by omega
          simp [marks_length, this, List.getElem?_append]
        have f1 : wr.frozen? ⟨g, j, none⟩ = false := Own.frozen hown j
        have hi : (j : Int) < (n : Int) := by omega
        have hset := Own.set hown j (.int .i64 (k + j))
        have hse : ((marks k j ++ xs.drop j).map (Value.int .i64)).set j (.int .i64 (k + j)) = (marks k (j + 1) ++ xs.drop (j + 1)).map (Value.int .i64) := by
          rw [← marks_set k n j xs hlt hn, List.map_set]
        rw [hse] at hset
        clear hse hown
        go_wp2
        go_roundw
        case rel => exact ⟨j + 1, by omega, by go_num, by go_num, hset, hoff.setCell _ _ (.inl (by simp))⟩
        case measure => simp [intOf]; omega
      · obtain rfl : j = n := by omega
        go_wp2
        go_ret
        refine ⟨by go_num, ?_, hoff⟩
        have : xs.drop j = [] := List.drop_eq_nil_of_le (by omega)
        rw [this, List.append_nil] at hown
        refine ⟨te, ?_⟩
        rw [marks_length]
        exact hown

set_option maxHeartbeats 400000 in
theorem heldInt64S_all (v : Value) (k : Int) (n : Nat) (w : World) (hv : Reads w .i64 v (marks k n)) (hk : 0 ≤ k) (hk' : k ≤ 1073741824) (hl : n ≤ 1073741824) :
    Calls Tryz.prog 79 #[v, .int .i64 k] w fun e w' => e = .returned (.int .i64 (k + n)) ∧ Below w.heap.size w w' := by
  obtain ⟨a, ca, rfl, hm, hA⟩ := hv
  rw [marks_length] at *
  by_cases hx : n = 0
  · subst hx
    go_enter Tryz.func79, Tryz.ntmps79
    go_wp2
    refine wp_loop_rounds 1 ?_
    rw [rounds_succ]
    go_wp2
    go_ret
    exact ⟨by simp, Below.refl _ _⟩
  · obtain ⟨g, o, rfl, hlt0, cA⟩ := hA (by intro h; have := marks_length k n; rw [h] at this; simp at this; omega)
    clear hA
    go_enter Tryz.func79, Tryz.ntmps79
    go_wp2
    go_loop [1, 5] (fun m i => ∃ j : Nat, j ≤ n ∧ i = .int .i64 j ∧ m = .int .i64 (k + j)) (fun _ i => n - (intOf i).toNat)
    case atStart => exact ⟨0, Nat.zero_le _, rfl, by simp⟩
    case round =>
      obtain ⟨j, hj, rfl, rfl⟩ := hrel
      by_cases hlt : j < n
      · have c1 : w.cell? ⟨g, o + j, none⟩ = some (.int .i64 (k + j)) := by rw [cA j hlt, marks_getD k n j hlt]
        have hi : (j : Int) < (n : Int) := by omega
        clear cA
        go_wp2
        go_round
        case rel => exact ⟨j + 1, by omega, by go_num, by go_num⟩
        case measure => simp [intOf]; omega
      · obtain rfl : j = n := by omega
        go_wp2
        go_ret
        exact ⟨by go_num, Below.refl _ _⟩

theorem Tryz.infoI : (Tryz.prog.info? 2).map (fun i => (i.zero, i.size, i.bytes)) = some (some (.int .i64 0), 1, 8) := by kernel_rfl
theorem take_zero_set (xs : List Int) (k n : Nat) (h : k < n) (hx : xs.length = n) : (((xs.take k ++ List.replicate (n - k) 0).map (Value.int .i64)).set k (.int .i64 (xs.getD k 0))) = (xs.take (k + 1) ++ List.replicate (n - (k + 1)) 0).map (Value.int .i64) := by
  have hk : k < xs.length := by omega
  have hg : xs.getD k 0 = xs[k] := by simp [hk]
  have : (xs.take k).length = k := by simp; omega
  rw [← List.map_set, List.set_append_right _ _ (by omega), List.take_succ_eq_append_getElem hk, hg, this, show n - k = (n - (k + 1)) + 1 by omega]
  simp only [Nat.sub_self, List.replicate_succ, List.set_cons_zero, List.append_assoc, List.singleton_append]
set_option maxHeartbeats 800000 in
theorem toInt64S_all (v : Value) (xs : List Int) (w : World) (hv : Reads w .i64 v xs) (hl : xs.length ≤ 1048576) :
    Calls Tryz.prog 35 #[v] w fun e w' => ∃ g, e = .returned (.slice (some ⟨g, 0, none⟩) xs.length xs.length) ∧ Ints w' (.slice (some ⟨g, 0, none⟩) xs.length xs.length) xs [g] ∧ w.heap.size ≤ g ∧ Below w.heap.size w w' := by
  obtain ⟨i0, hi, hz0, hz1, hz2⟩ := info_parts Tryz.infoI
  obtain ⟨a, ca, rfl, hm, hA⟩ := hv
  generalize hn : xs.length = n at *
  go_enter Tryz.func35, Tryz.ntmps35
  go_wp2_with (at_make; refine wpList_make_full _ rfl _ _ 25 rfl w.heap.size 2 i0 (.int .i64 0) 1 Tryz.underlying25 hi hz0 hz1 _ _ _ _ n rfl rfl rfl rfl (by rw [hz2]; omega) hm (Nat.le_refl _) ?_)
  intro w1 hown hgrow
  have hb1 : Below w.heap.size w w1 := (Below.refl _ _).grown hgrow (Nat.le_refl _) (fun k hk => by cases hk)
  have hown1 : Own w1 2 1 (.slice (some ⟨w.heap.size, 0, none⟩) n n) n ((xs.take 0 ++ List.replicate (n - 0) 0).map (Value.int .i64)) [w.heap.size] := by
    obtain ⟨bs, h1, h2⟩ := Own.of_owns hown
    have hbs : bs = [w.heap.size] := by
      rcases h1.2 with ⟨k, _⟩ | ⟨g', cap', cur, rfl, k, _⟩
      · cases k
      · simp at k; rw [k.1]
    rw [hbs] at h1
    rw [toList_madeCells_one] at h1
    simpa using h1
  clear hown hgrow
  by_cases hx : n = 0
  · subst hx
    have hx : xs = [] := List.eq_nil_of_length_eq_zero hn
    subst hx
    go_wp2
    refine wp_loop_rounds 1 ?_
    rw [rounds_succ]
    go_wp2
    go_ret
    exact ⟨w.heap.size, rfl, ⟨_, by simpa using hown1⟩, Nat.le_refl _, hb1⟩
  · obtain ⟨b, o, rfl, hlt0, cA⟩ := hA (by intro h; rw [h] at hn; simp at hn; omega)
    clear hA
    have hnb : b ≠ w.heap.size := by omega
    go_wp2
    go_loopw [4] (fun i wr => ∃ k : Nat, k ≤ n ∧ i = .int .i64 k ∧ Own wr 2 1 (.slice (some ⟨w.heap.size, 0, none⟩) n n) n ((xs.take k ++ List.replicate (n - k) 0).map (Value.int .i64)) [w.heap.size] ∧ Below w.heap.size w wr) (fun i _ => n - (intOf i).toNat)
    case atStart => exact ⟨0, Nat.zero_le _, rfl, hown1, hb1⟩
    case round =>
      clear hown1 hb1
      obtain ⟨k, hk, rfl, hown, hbel⟩ := hrel
      by_cases hlt : k < n
      · have c0 : wr.cell? ⟨b, o + k, none⟩ = some (.int .i64 (xs.getD k 0)) := (hbel.cell (p := ⟨b, o + k, none⟩) hlt0).trans (cA k hlt)
        have c1 : ∃ u, wr.cell? ⟨w.heap.size, k, none⟩ = some u := ⟨_, (Own.cell hown k (by omega)).trans (List.getElem?_eq_getElem (by simp; omega))⟩
        obtain ⟨u, c1⟩ := c1
        have f1 : wr.frozen? ⟨w.heap.size, k, none⟩ = false := Own.frozen hown k
        have hset := Own.set hown k (.int .i64 (xs.getD k 0))
        rw [take_zero_set xs k n hlt hn] at hset
        have hi : (k : Int) < (n : Int) := by omega
        clear cA hown
        generalize xs.getD k 0 = y at *
        go_wp2
        go_roundw
        case rel => exact ⟨k + 1, by omega, by go_num, hset, hbel.setCell (Nat.le_refl _) _⟩
        case measure => simp [intOf]; omega
      · obtain rfl : k = n := by omega
        go_wp2
        go_ret
        refine ⟨w.heap.size, rfl, ?_, Nat.le_refl _, hbel⟩
        have e : xs.take k = xs := List.take_of_length_le (by omega)
        rw [e] at hown
        refine ⟨2, ?_⟩
        rw [hn]
        simpa using hown
end Go.Proofs.YtepobckhfodngaoGreat
