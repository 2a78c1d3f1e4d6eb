/-
  Contracts of chapter 2's program: a tape out of a seed, its words told by an iterator.
-/
import Derived.Test.YtadppilldijijaaSeedS
import Derived.RangeFuncNested
import Derived.RangeFuncBound
import Derived.RangeFuncCalls
import Derived.RangeFuncLeaves
import Derived.Shelf.Abstract
import Derived.Shelf.RegionOpen
import Derived.WalkKit
import Derived.OwnWalkIn
import Derived.TacticsInMore
import Derived.LoopNIn
import Derived.LoopIn
import Derived.Deep.OwnRows
import Derived.OrdersHeld
import Derived.Deep.RegionHeld
namespace Go.Proofs.Ytadppilldijijaa
open Go.ChangeShapes Go.WideShapes Go.ChangeAt Go.RowKit Go.Shelf
set_option linter.unusedVariables false
attribute [local go_sem] Oper.semAt_some

/-- what is told: a place below m, and a word -/
abbrev SW (m : Nat) := { x : Nat × Int // x.1 < m }
def swEnc (m : Nat) (x : SW m) : Array Value := #[.int .i64 (x.1.1 : Int), .int .i64 x.1.2]
def swUpto (s : Int) (m : Nat) : (k : Nat) → k ≤ m → List (SW m)
  | 0, _ => []
  | k + 1, h => swUpto s m k (by omega) ++ [⟨(k, seedWord s k), h⟩]
theorem swUpto_length (s : Int) (m : Nat) : ∀ k h, (swUpto s m k h).length = k
  | 0, _ => rfl
  | k + 1, h => by simp [swUpto, swUpto_length]
/-- operations that call nothing and defer nothing -/
def plainOp (o : Oper) : Bool := match o.op with
  | .move _ => true
  | .load _ _ => true
  | .store _ _ _ => true
  | .binOp _ _ _ _ _ => true
  | .indexAddr _ _ _ => true
  | _ => false
theorem upon_in {F : Fence} {n : Nat} {P : Program} {o : Oper} {a : Act} {K K' : Act → World → Prop} {Q : Exit → Act → World → Prop} {α : Type} {r : Result α} {f : α → Next} (hf : ∀ x, (∃ v, f x = .value v) ∨ f x = .skip)
    (hK : ∀ a w, K a w → K' a w) (h : o.upon P a K Q (r.andThen fun x w => .ok (f x) w)) : o.uponIn F n P a K' Q (r.andThen fun x w => .ok (f x) w) := by
  cases r with
  | ok x w =>
    rcases hf x with ⟨v, e⟩ | e
    · simp only [Result.andThen, e] at h ⊢; exact hK _ _ h
    · simp only [Result.andThen, e] at h ⊢; exact hK _ _ h
  | halt hl w =>
    simp only [Result.andThen] at h ⊢
    cases hl <;> first | exact h | exact h.elim
theorem plain_in {F : Fence} {n : Nat} {P : Program} {o : Oper} {a : Act} {w : World} {K K' : Act → World → Prop} {Q : Exit → Act → World → Prop} (hp : plainOp o = true) (hK : ∀ a w, K a w → K' a w) (h : o.wp P a w K Q) : o.wpIn F n P a w K' Q := by
  have hd : ∀ c, o.op ≠ .defer c := fun c e => by simp [plainOp, e] at hp
  have hc : ∀ f, o.about P w a.eval = some f → F.fn f := fun f e => by
    unfold Oper.about at e
    unfold plainOp at hp
    split at e
    · rename_i c hc; simp [hc] at hp
    · cases e
  refine ⟨hc, ?_⟩
  rw [Oper.semAt_plain F _ _ hd]
  unfold Oper.wp at h
  unfold plainOp at hp
  split at hp
  · rename_i ho; simp only [execOp, ho] at h ⊢; exact hK _ _ h
  · rename_i ho; simp only [execOp, ho, Sem.run_bind (f := fun v => pure (Next.value v)), Sem.run_pure] at h ⊢; exact upon_in (f := fun v => Next.value v) (fun v => .inl ⟨v, rfl⟩) hK h
  · rename_i ho; simp only [execOp, ho, Sem.run_bind, Sem.run_pure] at h ⊢; exact upon_in (f := fun _ => Next.skip) (fun v => .inr rfl) hK h
  · rename_i ho; simp only [execOp, ho, Sem.run_bind (f := fun v => pure (Next.value v)), Sem.run_pure] at h ⊢; exact upon_in (f := fun v => Next.value v) (fun v => .inl ⟨v, rfl⟩) hK h
  · rename_i ho; simp only [execOp, ho, Sem.run_bind (f := fun v => pure (Next.value v)), Sem.run_pure] at h ⊢; exact upon_in (f := fun v => Next.value v) (fun v => .inl ⟨v, rfl⟩) hK h
  · cases hp
theorem anyIn_of_held {F : Fence} {n : Nat} {P : Program} {md : Region.Mode} {ops : Array Oper} {Q : Exit → Act → World → Prop} {S : World → Prop} (hall : ops.all plainOp = true) (hQ : ¬ LetsOut Q) :
    ∀ (fuel : Nat) (listed : Array Bool) (a : Act) (w : World), wpAnyH P md ops Q S fuel listed a w → wpAnyIn F n P md ops Q fuel listed a w
  | 0, _, _, _, h => h
  | fuel + 1, listed, a, w, h => ⟨h.1, fun i hi => by
      have hops : ∀ (i : Nat) (o : Oper), ops[i]? = some o → plainOp o = true := fun i o e => by
        obtain ⟨hl, e'⟩ := Array.getElem?_eq_some_iff.1 e
        have := Array.all_eq_true.1 hall i hl
        rw [← e']; exact this
      have h2 := h.2 i hi
      unfold wpOp at h2
      unfold wpOpIn
      split at h2
      · rename_i e; rw [e]; exact anyIn_of_held hall hQ fuel _ _ _ h2.2
      · rename_i o e
        rw [e]
        simp only
        split at h2
        · rename_i hw
          rw [if_pos hw]
          rcases h2 with h2 | h2
          · exact plain_in (hops i o e) (fun a' w' hh => anyIn_of_held hall hQ fuel _ _ _ hh.2) h2
          · exact absurd h2.2 hQ
        · rename_i hw
          rw [if_neg hw]
          refine ⟨fun f hf => ?_, anyIn_of_held hall hQ fuel _ _ _ h2.2⟩
          have hp := hops i o e
          unfold Oper.about at hf
          unfold plainOp at hp
          split at hf
          · rename_i c hc; simp [hc] at hp
          · cases hf⟩
theorem wrap_small (q : Nat) (h : q ≤ 3600) : IntKind.i64.wrap (q : Int) = (q : Int) := by
  simp [IntKind.wrap, IntKind.bits, IntKind.signed]
  omega
/-- the lanes behind what was told -/
def fillAll (n : Nat) {m : Nat} (pre : List (SW m)) : List (List Int) := pre.foldl (fun rows x => rows.set (x.1.1 / n) ((rows.getD (x.1.1 / n) []).set (x.1.1 % n) x.1.2)) (List.replicate 4 (List.replicate n 0))
theorem fillAll_snoc (n : Nat) {m : Nat} (pre : List (SW m)) (x : SW m) : fillAll n (pre ++ [x]) = (fillAll n pre).set (x.1.1 / n) (((fillAll n pre).getD (x.1.1 / n) []).set (x.1.1 % n) x.1.2) := by simp [fillAll]
theorem getD_set_len (rows : List (List Int)) (n q : Nat) (ys : List Int) (h : ∀ j, j < rows.length → (rows.getD j []).length = n) (hy : ys.length = n) : ∀ j, j < (rows.set q ys).length → ((rows.set q ys).getD j []).length = n := by
  intro j hj
  rw [List.length_set] at hj
  rw [List.getD_eq_getElem?_getD, List.getElem?_set]
  by_cases e : q = j
  · subst e; simp [hj, hy]
  · have := h j hj
    rw [List.getD_eq_getElem?_getD] at this
    simp only [if_neg e]
    exact this
theorem fold_form (n : Nat) {m : Nat} : ∀ (pre : List (SW m)) (rows : List (List Int)), rows.length = 4 → (∀ j, j < rows.length → (rows.getD j []).length = n) →
    (pre.foldl (fun rows (x : SW m) => rows.set (x.1.1 / n) ((rows.getD (x.1.1 / n) []).set (x.1.1 % n) x.1.2)) rows).length = 4 ∧ ∀ j, j < 4 → ((pre.foldl (fun rows (x : SW m) => rows.set (x.1.1 / n) ((rows.getD (x.1.1 / n) []).set (x.1.1 % n) x.1.2)) rows).getD j []).length = n
  | [], rows, h4, h => ⟨h4, fun j hj => h j (by omega)⟩
  | x :: r, rows, h4, h => by
    refine fold_form n r _ (by simpa using h4) ?_
    by_cases hq : x.1.1 / n < rows.length
    · exact getD_set_len rows n _ _ h (by rw [List.length_set]; exact h _ hq)
    · dsimp only
      rw [List.set_eq_of_length_le (by omega)]; exact h
theorem fillAll_form (n : Nat) {m : Nat} (pre : List (SW m)) : (fillAll n pre).length = 4 ∧ ∀ j, j < 4 → ((fillAll n pre).getD j []).length = n :=
  fold_form n pre _ (by simp) (fun j hj => by rw [List.length_replicate] at hj; rw [List.getD_eq_getElem?_getD, List.getElem?_replicate, if_pos hj]; simp)
def fillTo (s : Int) (n k : Nat) : List (List Int) := (List.range 4).map fun j => (List.range n).map fun i => if j * n + i < k then seedWord s (j * n + i) else 0
theorem place_iff {n i j k : Nat} (hi : i < n) : j * n + i = k ↔ j = k / n ∧ i = k % n := by
  constructor
  · rintro rfl
    have hn : 0 < n := by omega
    rw [Nat.add_comm, Nat.add_mul_div_right _ _ hn, Nat.add_mul_mod_self_right, Nat.div_eq_of_lt hi, Nat.mod_eq_of_lt hi]
    omega
  · rintro ⟨rfl, rfl⟩
    exact Nat.div_add_mod' k n
theorem fillTo_step (s : Int) (n k : Nat) (h : k < 4 * n) : (fillTo s n k).set (k / n) (((fillTo s n k).getD (k / n) []).set (k % n) (seedWord s k)) = fillTo s n (k + 1) := by
  have hn : 0 < n := by omega
  have hq : k / n < 4 := Nat.div_lt_of_lt_mul (by omega)
  have hr : k % n < n := Nat.mod_lt _ hn
  unfold fillTo
  refine List.ext_getElem (by simp) fun j h1 h2 => ?_
  simp only [List.length_map, List.length_range] at h2
  rw [List.getElem_set]
  by_cases e : k / n = j
  · subst e
    rw [if_pos rfl]
    simp only [List.getD_eq_getElem?_getD, List.getElem?_map, List.getElem?_range hq, Option.map_some, Option.getD_some, List.getElem_map, List.getElem_range]
    refine List.ext_getElem (by simp) fun i h3 h4 => ?_
    simp only [List.length_map, List.length_range] at h4
    rw [List.getElem_set]
    have hp := place_iff (n := n) (i := i) (j := k / n) (k := k) h4
    by_cases e2 : k % n = i
    · subst e2
      have : k / n * n + k % n = k := Nat.div_add_mod' k n
      simp [this]
    · have hne : k / n * n + i ≠ k := fun h => e2 (hp.1 h).2.symm
      simp only [if_neg e2, List.getElem_map, List.getElem_range]
      by_cases hl : k / n * n + i < k
      · rw [if_pos hl, if_pos (by omega)]
      · rw [if_neg hl, if_neg (by omega)]
  · rw [if_neg e]
    simp only [List.getElem_map, List.getElem_range]
    refine List.map_congr_left fun i hi => ?_
    have hi' := List.mem_range.1 hi
    have hne : j * n + i ≠ k := fun h => e ((place_iff hi').1 h).1.symm
    by_cases hl : j * n + i < k
    · rw [if_pos hl, if_pos (by omega)]
    · rw [if_neg hl, if_neg (by omega)]
theorem fillAll_upto (s : Int) (n : Nat) : ∀ k h, fillAll n (swUpto s (4 * n) k h) = fillTo s n k
  | 0, _ => by
    show List.replicate 4 (List.replicate n 0) = fillTo s n 0
    unfold fillTo
    refine List.ext_getElem (by simp) fun j h1 h2 => ?_
    simp only [List.getElem_replicate, List.getElem_map, Nat.not_lt_zero, if_false]
    refine List.ext_getElem (by simp) fun i h3 h4 => ?_
    simp
  | k + 1, h => by
    rw [swUpto, fillAll_snoc, fillAll_upto s n k (by omega)]
    exact fillTo_step s n k h
theorem fillAll_end (s : Int) (n : Nat) : fillAll n (swUpto s (4 * n) (4 * n) (Nat.le_refl _)) = seedRows s n := by
  rw [fillAll_upto]
  unfold fillTo seedRows seedRow
  refine List.map_congr_left fun j hj => List.map_congr_left fun i hi => ?_
  have hj' := List.mem_range.1 hj
  have hi' := List.mem_range.1 hi
  have h1 : (j + 1) * n ≤ 4 * n := Nat.mul_le_mul_right n (by omega)
  rw [Nat.succ_mul] at h1
  rw [if_pos (by omega)]
/-! what stays where blocks that are no cells turn -/
theorem kept_block {A B : World} {row : Option Nat} (hg : A.grownBy B row) (hr : ∀ r, row = some r → ∃ o : Obj, A.heap[r]? = some o ∧ o.isCells = false) {g : Nat} {cs : Array Value} {T : TypeId} {f : Nat × Nat} (h : A.heap[g]? = some (.cells cs T f)) : B.heap[g]? = A.heap[g]? :=
  hg.block g (Array.getElem?_eq_some_iff.1 h).1 (fun e => by
    obtain ⟨o, h1, h2⟩ := hr g e.symm
    rw [h] at h1
    cases h1
    cases h2)
theorem Blk.kept {A B : World} {row : Option Nat} (hg : A.grownBy B row) (hr : ∀ r, row = some r → ∃ o : Obj, A.heap[r]? = some o ∧ o.isCells = false) {b : Nat} {T : TypeId} {cs : Array Value} (h : Blk A b T cs) : Blk B b T cs := (kept_block hg hr h).trans h
theorem Own.kept {A B : World} {row : Option Nat} (hg : A.grownBy B row) (hr : ∀ r, row = some r → ∃ o : Obj, A.heap[r]? = some o ∧ o.isCells = false) {e : TypeId} {size : Nat} {v : Value} {n : Nat} {xs : List Value} {bs : List Nat} (h : Own A e size v n xs bs) : Own B e size v n xs bs :=
  h.frame fun g hgb => by
    rcases h.2 with ⟨_, _, rfl⟩ | ⟨g', cap, cur, rfl, _, hh, _⟩
    · cases hgb
    · simp at hgb; subst hgb; exact kept_block hg hr hh
theorem Rows.kept {A B : World} {row : Option Nat} (hg : A.grownBy B row) (hr : ∀ r, row = some r → ∃ o : Obj, A.heap[r]? = some o ∧ o.isCells = false) : ∀ {vs : List Value} {xss : List (List Int)} {bi : List (List Nat)}, Rows A vs xss bi → Rows B vs xss bi
  | [], [], [], _ => trivial
  | _ :: _, _ :: _, _ :: _, h => ⟨h.1.imp fun _ k => Own.kept hg hr k, Rows.kept hg hr h.2⟩
set_option maxRecDepth 100000 in
set_option maxHeartbeats 2000000 in
theorem impl_seedWords1 (n : Nat) (hn : 1 ≤ n) (s : Int) (m bs bm : Nat) (w : World) (h0 : 0 ≤ s) (h1 : s ≤ 65536) (hm : m ≤ 3600) (cs : w.cell? ⟨bs, 0, none⟩ = some (.int .i64 s)) (cm : w.cell? ⟨bm, 0, none⟩ = some (.int .i64 m)) :
    SeqStopsK Fence.wide n Try.prog 124 #[.pointer (some ⟨bs, 0, none⟩), .pointer (some ⟨bm, 0, none⟩)] (swEnc m) KeepsWalks (fun xs => xs = swUpto s m m (Nat.le_refl _)) (fun _ => True) m w := fun l J Jx W hW _ _ hY hJ0 => by
  have cs1 : W.cell? ⟨bs, 0, none⟩ = some (.int .i64 s) := (hW.cell (p := ⟨bs, 0, none⟩) (cell_lt cs)).trans cs
  have cm1 : W.cell? ⟨bm, 0, none⟩ = some (.int .i64 m) := (hW.cell (p := ⟨bm, 0, none⟩) (cell_lt cm)).trans cm
  have HA : Hid (∀ k, 0 ≤ seedAt s k ∧ seedAt s k ≤ 65536) := seedAt_range s h0 h1
  have HJ : Hid (J (swUpto s m 0 (Nat.zero_le _)) W) := hJ0
  clear cs cm hW hJ0
  refine callsIn_of_wp Try.func124 rfl trivial ?_ rfl
  simp only [Try.ntmps124, List.size_toArray, List.length_cons, List.length_nil, Nat.reduceAdd, Nat.reduceSub, Array.replicate_succ, Array.replicate_zero, List.push_toArray, List.append_toArray, List.nil_append, List.cons_append]
  gi_wp2
  gi_loopw [4, 5, 8] (fun nx _ i wr => ∃ k : Nat, ∃ hk : k ≤ m, i = .int .i64 k ∧ nx = .int .i64 (seedAt s k) ∧ Hid (J (swUpto s m k hk) wr)) (fun _ _ i _ => m - (intOf i).toNat)
  case atStart => exact ⟨0, Nat.zero_le _, rfl, rfl, HJ⟩
  case round =>
    obtain ⟨k, hk, rfl, rfl, hJ⟩ := hrel
    by_cases hlt : k < m
    · obtain ⟨r1, r2⟩ := HA.out k
      have hN : seedAt s (k + 1) = (seedAt s k * 75 + 74) % 65537 := rfl
      obtain ⟨fn, tmps, assign, body, hy, hR⟩ := hY _ (⟨(k, seedWord s k), hlt⟩ : SW m) wr hJ.out (by rw [swUpto_length]; exact hlt)
      have e : swEnc m (⟨(k, seedWord s k), hlt⟩ : SW m) = #[.int .i64 (k : Int), .int .i64 ((seedAt s k * 75 + 74) % 65537 / 7 % 256)] := by unfold swEnc seedWord; rw [hN]
      rw [e] at hy
      have HN : Hid (seedAt s (k + 1) = (seedAt s k * 75 + 74) % 65537) := hN
      have HU : Hid (swUpto s m (k + 1) hlt = swUpto s m k hk ++ [⟨(k, seedWord s k), hlt⟩]) := rfl
      clear hN e hJ hY
      have hi : (k : Int) < (m : Int) := by omega
      generalize seedAt s k = y at *
      have hyy : 0 ≤ (y * 75 + 74) % 65537 ∧ (y * 75 + 74) % 65537 < 65537 := by omega
      gi_wp2
      refine hR.mono ?_
      rintro e W3 (⟨rfl, hJ3, hk3⟩ | ⟨rfl, hJx3⟩)
      · have HJ3 : Hid (J (swUpto s m (k + 1) hlt) W3) := by show J _ _; rw [HU.out]; exact hJ3
        clear hJ3 hR hy
        gi_wp2
        go_roundw
        case rel => exact ⟨k + 1, hlt, by go_num, by rw [HN.out], HJ3⟩
        case measure => simp [intOf]; omega
      · gi_wp2
        refine bodyPost_ret (results_none rfl _ _ _) rfl ?_
        exact ⟨⟨_, rfl⟩, .inr ⟨_, trivial, hJx3⟩⟩
    · obtain rfl : k = m := by omega
      gi_wp2
      go_end0
      exact ⟨⟨_, rfl⟩, .inl ⟨_, rfl, hJ.out⟩⟩
theorem impl_seedWords (s m : Int) (w : World) :
    Calls Try.prog 85 #[.int .i64 s, .int .i64 m] w fun e w' => e = .returned (.func (.func 124) #[] #[.pointer (some ⟨w.heap.size, 0, none⟩), .pointer (some ⟨w.heap.size + 1, 0, none⟩)]) ∧ w' = (w.alloc (.cells #[.int .i64 s] 2)).alloc (.cells #[.int .i64 m] 2) := by
  go_enter Try.func85, Try.ntmps85
  go_wp2
  go_ret
  exact ⟨rfl, rfl⟩
set_option maxRecDepth 100000 in
set_option maxHeartbeats 2000000 in
theorem impl_SeedTape_no (s n : Int) (w : World) (h : ¬ ((0 ≤ s ∧ s ≤ 65535) ∧ (0 ≤ n ∧ n ≤ 900))) :
    Calls Try.prog 34 #[.int .i64 s, .int .i64 n] w fun e w' => ∃ u b0, e = .returned u ∧ OwTapeResult w' u (seedR s n) b0 ∧ (∀ y ∈ b0, w.heap.size ≤ y) ∧ Below w.heap.size w w' := by
  have HR : Hid (seedR s n = ⟨3, []⟩) := if_neg h
  refine (callsIn_wide (n := 3)).1 ?_
  refine callsIn_of_wp_marks Try.func34 rfl trivial ?_ rfl
  simp only [Try.ntmps34, List.size_toArray, List.length_cons, List.length_nil, Nat.reduceAdd, Nat.reduceSub, Array.replicate_succ, Array.replicate_zero, List.push_toArray, List.append_toArray, List.nil_append, List.cons_append]
  have hC : (s < 0) ∨ (0 ≤ s ∧ 65535 < s) ∨ (0 ≤ s ∧ s ≤ 65535 ∧ n < 0) ∨ (0 ≤ s ∧ s ≤ 65535 ∧ 0 ≤ n ∧ 900 < n) := by omega
  clear h
  rcases hC with g1 | ⟨g0, g1⟩ | ⟨g0, g1, g2⟩ | ⟨g0, g1, g2, g3⟩
  all_goals
    gi_wp2
    exact ⟨.agg #[.int .i64 3, .slice none 0 0], by simp [results, Try.results34, go_sem], _, [], rfl, by rw [HR.out]; exact ⟨none, 0, rfl, Mat.nil _⟩, by simp, (by repeat (first | exact Below.refl _ _ | refine Below.drew ?_ | refine below_drewN ?_ _ | refine Below.setCell ?_ (by first | omega | (simp; done) | (simp; omega)) _ | refine Below.alloc ?_ (by first | omega | (simp; done) | (simp; omega)) _))⟩
set_option maxRecDepth 100000 in
set_option maxHeartbeats 4000000 in
theorem impl_SeedTape_yes (s : Int) (n : Nat) (w : World) (h0 : 0 ≤ s) (h1 : s ≤ 65535) (hn : n ≤ 900) :
    Calls Try.prog 34 #[.int .i64 s, .int .i64 n] w fun e w' => ∃ u b0, e = .returned u ∧ OwTapeResult w' u ⟨0, seedRows s n⟩ b0 ∧ (∀ y ∈ b0, w.heap.size ≤ y) ∧ Below w.heap.size w w' := by
  have hmk : ∀ w, (Instr.makeSlice 40 (.int .i64 4) (.int .i64 4)).run Try.prog w = .ok (.slice (some ⟨w.heap.size, 0, none⟩) 4 4) (w.alloc (.cells #[.slice none 0 0, .slice none 0 0, .slice none 0 0, .slice none 0 0] 33)) := fun _ => by kernel_rfl
  have hmr := run_make_row' (P := Try.prog) 33 2 (.int .i64 0) 8 Try.underlying33 Try.infoI rfl .i64 .i64 n (by omega) (by omega)
  have g2 : (0 : Int) ≤ (n : Int) := by omega
  have g3 : (n : Int) ≤ 900 := by omega
  have d1 : decide (s < 0) = false := by simp; omega
  have d2 : decide (65535 < s) = false := by simp; omega
  have d3 : decide ((n : Int) < 0) = false := by simp
  have d4 : decide (900 < (n : Int)) = false := by simp; omega
  obtain ⟨W0, hW0⟩ : ∃ W0, W0 = (((w.alloc (.cells #[.int .i64 n] 2)).alloc (.cells #[.int .i64 0, .slice none 0 0] 46)).alloc (.cells #[.slice none 0 0, .slice none 0 0, .slice none 0 0, .slice none 0 0] 33)).alloc (.cells #[.slice (some ⟨w.heap.size + 1 + 1, 0, none⟩) 4 4] 40) := ⟨_, rfl⟩
  have N0 : Blk W0 w.heap.size 2 #[.int .i64 n] := by rw [hW0]; exact (((Blk.new w _ _).alloc _).alloc _).alloc _
  have R0 : Blk W0 (w.heap.size + 1) 46 #[.int .i64 0, .slice none 0 0] := by rw [hW0]; simpa using ((Blk.new (w.alloc (.cells #[.int .i64 n] 2)) 46 #[.int .i64 0, .slice none 0 0]).alloc _).alloc _
  have O0 : Own W0 33 1 (.slice (some ⟨w.heap.size + 1 + 1, 0, none⟩) 4 4) 4 (([] : List Value) ++ List.replicate (4 - 0) (.slice none 0 0)) [w.heap.size + 1 + 1] := by
    rw [hW0]
    have := (Own.made ((w.alloc (.cells #[.int .i64 n] 2)).alloc (.cells #[.int .i64 0, .slice none 0 0] 46)) 33 1 #[.slice none 0 0, .slice none 0 0, .slice none 0 0, .slice none 0 0] 4 (by unfold maxLen; omega) rfl).alloc (.cells #[.slice (some ⟨w.heap.size + 1 + 1, 0, none⟩) 4 4] 40)
    simpa using this
  have L0 : Blk W0 (w.heap.size + 1 + 1 + 1) 40 #[.slice (some ⟨w.heap.size + 1 + 1, 0, none⟩) 4 4] := by rw [hW0]; simpa using Blk.new (((w.alloc (.cells #[.int .i64 n] 2)).alloc (.cells #[.int .i64 0, .slice none 0 0] 46)).alloc (.cells #[.slice none 0 0, .slice none 0 0, .slice none 0 0, .slice none 0 0] 33)) 40 #[.slice (some ⟨w.heap.size + 1 + 1, 0, none⟩) 4 4]
  have B0 : Below w.heap.size w W0 := by rw [hW0]; exact (by repeat (first | exact Below.refl _ _ | refine Below.drew ?_ | refine below_drewN ?_ _ | refine Below.setCell ?_ (by first | omega | (simp; done) | (simp; omega)) _ | refine Below.alloc ?_ (by first | omega | (simp; done) | (simp; omega)) _))
  have HW0 : Hid (W0 = (((w.alloc (.cells #[.int .i64 n] 2)).alloc (.cells #[.int .i64 0, .slice none 0 0] 46)).alloc (.cells #[.slice none 0 0, .slice none 0 0, .slice none 0 0, .slice none 0 0] 33)).alloc (.cells #[.slice (some ⟨w.heap.size + 1 + 1, 0, none⟩) 4 4] 40)) := hW0
  clear hW0
  refine (callsIn_wide (n := 3)).1 ?_
  refine callsIn_of_wp_marks Try.func34 rfl trivial ?_ rfl
  simp only [Try.ntmps34, List.size_toArray, List.length_cons, List.length_nil, Nat.reduceAdd, Nat.reduceSub, Array.replicate_succ, Array.replicate_zero, List.push_toArray, List.append_toArray, List.nil_append, List.cons_append]
  gi_wp2
  rw [← HW0.out]
  clear HW0 hmk
  gi_loopw [6, 27] (fun _ i wr => ∃ k : Nat, ∃ vs : List Value, ∃ bi : List (List Nat), k ≤ 4 ∧ i = .int .i64 k ∧ Blk wr w.heap.size 2 #[.int .i64 n] ∧ Blk wr (w.heap.size + 1) 46 #[.int .i64 0, .slice none 0 0] ∧ Blk wr (w.heap.size + 1 + 1 + 1) 40 #[.slice (some ⟨w.heap.size + 1 + 1, 0, none⟩) 4 4] ∧ Own wr 33 1 (.slice (some ⟨w.heap.size + 1 + 1, 0, none⟩) 4 4) 4 (vs ++ List.replicate (4 - k) (.slice none 0 0)) [w.heap.size + 1 + 1] ∧ Rows wr vs (List.replicate k (List.replicate n 0)) bi ∧ ((w.heap.size + 1 + 1) :: bi.flatten).Nodup ∧ (∀ x ∈ bi.flatten, w.heap.size + 1 + 1 + 1 < x) ∧ Below w.heap.size w wr) (fun _ i _ => 4 - (intOf i).toNat)
  case atStart => exact ⟨0, [], [], Nat.zero_le _, rfl, N0, R0, L0, O0, trivial, by simp, by simp, B0⟩
  case round =>
    obtain ⟨k, vs, bi, hk, rfl, N, R, L, O, hR, hnd, hgt, B⟩ := hrel
    clear N0 R0 O0 L0 B0
    by_cases hlt : k < 4
    · have hi : (k : Int) < 4 := by omega
      have hi0 : (0 : Int) ≤ (k : Int) := by omega
      have na := N.at.1
      have la := L.at.1
      have nl := N.lt
      have ll := L.lt
      have hvl : vs.length = k := by have := hR.len.1; rw [this]; simp
      obtain ⟨u2, c2⟩ : ∃ u, wr.cell? ⟨w.heap.size + 1 + 1, k, none⟩ = some u := ⟨_, (Own.cell O k (by omega)).trans (List.getElem?_eq_getElem (by simp; omega))⟩
      have f2 : wr.frozen? ⟨w.heap.size + 1 + 1, k, none⟩ = false := Own.frozen O k
      have gl : w.heap.size + 1 + 1 < wr.heap.size := Own.lt O _ (by simp)
      gi_wp2
      gi_region
      have N3 := (N.setOther ⟨w.heap.size + 1 + 1, k, none⟩ (.slice (some ⟨wr.heap.size, 0, none⟩) n n) (by simp; omega)).alloc (.cells (madeCells #[.int .i64 0] n) 2)
      have R3 := (R.setOther ⟨w.heap.size + 1 + 1, k, none⟩ (.slice (some ⟨wr.heap.size, 0, none⟩) n n) (by simp)).alloc (.cells (madeCells #[.int .i64 0] n) 2)
      have L3 := (L.setOther ⟨w.heap.size + 1 + 1, k, none⟩ (.slice (some ⟨wr.heap.size, 0, none⟩) n n) (by simp)).alloc (.cells (madeCells #[.int .i64 0] n) 2)
      have B3 := ((B.setCell (p := ⟨w.heap.size + 1 + 1, k, none⟩) (by simp; omega) (.slice (some ⟨wr.heap.size, 0, none⟩) n n)).alloc (by have := B.size; simp; omega) (.cells (madeCells #[.int .i64 0] n) 2)).drew
      have O3 : Own ((wr.setCell ⟨w.heap.size + 1 + 1, k, none⟩ (.slice (some ⟨wr.heap.size, 0, none⟩) n n)).alloc (.cells (madeCells #[.int .i64 0] n) 2)) 33 1 (.slice (some ⟨w.heap.size + 1 + 1, 0, none⟩) 4 4) 4 ((vs ++ [.slice (some ⟨wr.heap.size, 0, none⟩) n n]) ++ List.replicate (4 - (k + 1)) (.slice none 0 0)) [w.heap.size + 1 + 1] := by
        have := Own.set O k (.slice (some ⟨wr.heap.size, 0, none⟩) n n)
        rw [nils_set vs 4 k _ hlt hvl] at this
        exact this.alloc _
      have I3 : Ints ((wr.setCell ⟨w.heap.size + 1 + 1, k, none⟩ (.slice (some ⟨wr.heap.size, 0, none⟩) n n)).alloc (.cells (madeCells #[.int .i64 0] n) 2)) (.slice (some ⟨wr.heap.size, 0, none⟩) n n) (List.replicate n 0) [wr.heap.size] := by
        have := Own.made (wr.setCell ⟨w.heap.size + 1 + 1, k, none⟩ (.slice (some ⟨wr.heap.size, 0, none⟩) n n)) 2 1 (madeCells #[.int .i64 0] n) n (by unfold maxLen; omega) (by rw [size_madeCells, Nat.mul_one])
        rw [toList_madeCells_one] at this
        have e : (wr.setCell ⟨w.heap.size + 1 + 1, k, none⟩ (.slice (some ⟨wr.heap.size, 0, none⟩) n n)).heap.size = wr.heap.size := by simp
        rw [e] at this
        unfold Ints
        exact ⟨_, by simpa using this⟩
      have hng : (w.heap.size + 1 + 1) ∉ bi.flatten := (List.nodup_cons.1 hnd).1
      have lt1 := hR.lt
      have Q3 : Rows ((wr.setCell ⟨w.heap.size + 1 + 1, k, none⟩ (.slice (some ⟨wr.heap.size, 0, none⟩) n n)).alloc (.cells (madeCells #[.int .i64 0] n) 2)) (vs ++ [.slice (some ⟨wr.heap.size, 0, none⟩) n n]) (List.replicate (k + 1) (List.replicate n 0)) (bi ++ [[wr.heap.size]]) := by
        rw [List.replicate_succ']
        refine Rows.snoc (hR.frame fun x hx => ?_) I3
        rw [Below.heap_alloc _ _ _ (by have := lt1 x hx; simp; omega)]
        exact Below.heap_setCell _ ⟨w.heap.size + 1 + 1, k, none⟩ _ _ (fun e => hng (by have e' : x = w.heap.size + 1 + 1 := e; rw [← e']; exact hx))
      have D3 : ((w.heap.size + 1 + 1) :: (bi ++ [[wr.heap.size]]).flatten).Nodup := by
        simp only [List.flatten_append, List.flatten_cons, List.flatten_nil, List.append_nil]
        rw [← List.cons_append]
        refine List.nodup_append.2 ⟨hnd, by simp, ?_⟩
        intro x hx y hy
        simp at hy
        subst hy
        rcases List.mem_cons.1 hx with rfl | hx
        · omega
        · have := lt1 x hx; omega
      have E3 : ∀ x ∈ (bi ++ [[wr.heap.size]]).flatten, w.heap.size + 1 + 1 + 1 < x := by
        intro x hx
        simp only [List.flatten_append, List.flatten_cons, List.flatten_nil, List.append_nil, List.mem_append, List.mem_singleton] at hx
        rcases hx with hx | rfl
        · exact hgt x hx
        · omega
      clear N R L B O hR na la I3
      gi_wp2
      go_roundw
      case rel => exact ⟨k + 1, _, _, by omega, by go_num, N3.drew, R3.drew, L3.drew, O3, Q3.keep (Below.refl _ _).drew, D3, E3, B3⟩
      case measure => simp [intOf]; omega
    · obtain rfl : k = 4 := by omega
      have na := N.at.1
      gi_wp2_with (refine ⟨trivial, ?_⟩; gi_at_call 85; refine (callsIn_wide.2 (impl_seedWords _ _ _)).mono ?_; rintro e w' ⟨rfl, rfl⟩)
      have hvl : vs.length = 4 := by have := hR.len.1; rw [this]; simp
      have hbl : bi.length = 4 := by have := hR.len.2; rw [this]; simp
      have hnd2 := (List.nodup_cons.1 hnd).2
      have hng := (List.nodup_cons.1 hnd).1
      have lt1 := hR.lt
      have e4 : vs ++ List.replicate (4 - 4) (Value.slice none 0 0) = vs := by simp
      rw [e4] at O
      obtain ⟨WS, hWS⟩ : ∃ WS, WS = (wr.alloc (.cells #[.int .i64 s] 2)).alloc (.cells #[.int .i64 (4 * (n : Int))] 2) := ⟨_, rfl⟩
      have CS : WS.cell? ⟨wr.heap.size, 0, none⟩ = some (.int .i64 s) := by rw [hWS, ((Blk.new wr 2 #[.int .i64 s]).alloc _).at.1]; rfl
      have CM : WS.cell? ⟨wr.heap.size + 1, 0, none⟩ = some (.int .i64 ((4 * n : Nat) : Int)) := by
        have : Blk WS (wr.heap.size + 1) 2 #[.int .i64 (4 * (n : Int))] := by rw [hWS]; simpa using Blk.new (wr.alloc (.cells #[.int .i64 s] 2)) 2 #[.int .i64 (4 * (n : Int))]
        rw [this.at.1, Int.natCast_mul]; rfl
      have BW : Below wr.heap.size wr WS := by rw [hWS]; exact (by repeat (first | exact Below.refl _ _ | refine Below.drew ?_ | refine below_drewN ?_ _ | refine Below.setCell ?_ (by first | omega | (simp; done) | (simp; omega)) _ | refine Below.alloc ?_ (by first | omega | (simp; done) | (simp; omega)) _))
      have SZ : wr.heap.size ≤ WS.heap.size := BW.size
      have F0 : (Blk WS w.heap.size 2 #[.int .i64 n] ∧ Blk WS (w.heap.size + 1) 46 #[.int .i64 0, .slice none 0 0] ∧ Blk WS (w.heap.size + 1 + 1 + 1) 40 #[.slice (some ⟨w.heap.size + 1 + 1, 0, none⟩) 4 4] ∧ Own WS 33 1 (.slice (some ⟨w.heap.size + 1 + 1, 0, none⟩) 4 4) 4 vs [w.heap.size + 1 + 1] ∧ Rows WS vs (fillAll n ([] : List (SW (4 * n)))) bi) ∧ Below w.heap.size w WS := ⟨⟨N.keep BW, R.keep BW, L.keep BW, Own.keep O BW, hR.keep BW⟩, B.trans (BW.mono B.size)⟩
      have HB := B.size
      rw [← hWS]
      clear hWS N R L O hR B na BW
      generalize wr.heap.size = sb at *
      refine wpIn_rangeFunc_ownF rfl (by omega) (gf := 124) (lb := #[.pointer (some ⟨sb, 0, none⟩), .pointer (some ⟨sb + 1, 0, none⟩)]) rfl trivial (enters_of Try.func124 (by kernel_rfl) rfl)
        (impl_seedWords1 (3 - 1) (by omega) s (4 * n) sb (sb + 1) WS h0 (by omega) (by omega) CS CM) walksK_t walksK_b (Below.refl _ _) (fun _ => rfl)
        (fun pre W => (Blk W w.heap.size 2 #[.int .i64 n] ∧ Blk W (w.heap.size + 1) 46 #[.int .i64 0, .slice none 0 0] ∧ Blk W (w.heap.size + 1 + 1 + 1) 40 #[.slice (some ⟨w.heap.size + 1 + 1, 0, none⟩) 4 4] ∧ Own W 33 1 (.slice (some ⟨w.heap.size + 1 + 1, 0, none⟩) 4 4) 4 vs [w.heap.size + 1 + 1] ∧ Rows W vs (fillAll n pre) bi) ∧ Below w.heap.size w W)
        (fun _ _ _ => False)
        (OwnFrom.and (_root_.Go.Own.from (fun pre A C row hs hg hr => ⟨hs.1.kept hg hr, hs.2.1.kept hg hr, hs.2.2.1.kept hg hr, Own.kept hg hr hs.2.2.2.1, Rows.kept hg hr hs.2.2.2.2⟩) _) (ownFrom_below (Nat.le_refl _) (by omega)))
        (fun _ _ _ _ _ hs _ _ => hs)
        F0
        (fun x => { tmps := #[.int .i64 s, .int .i64 n, undef, .pointer (some ⟨w.heap.size, 0, none⟩), .pointer (some ⟨w.heap.size + 1, 0, none⟩), .pointer (some ⟨w.heap.size + 1 + 1 + 1, 0, none⟩), u6, .int .i64 (x.1.1 : Int), .int .i64 x.1.2, .int .i64 s, .bool false, .bool false, .int .i64 s, .bool false, .bool false, .bool false, .int .i64 n, .bool false, .bool false, .bool false, .int .i64 n, .bool false, .bool false, undef, .slice (some ⟨w.heap.size + 1 + 1, 0, none⟩) 4 4, .slice (some ⟨w.heap.size + 1 + 1, 0, none⟩) 4 4, .int .i64 4, .int .i64 4, .bool false, u29, u30, u31, u32, u33, u34, u35, .int .i64 s, .int .i64 n, .int .i64 (4 * (n : Int)), .func (.func 124) #[] #[.pointer (some ⟨sb, 0, none⟩), .pointer (some ⟨sb + 1, 0, none⟩)], .int .i64 (x.1.1 : Int), .int .i64 x.1.2, undef, undef, undef, undef, undef, undef, undef, undef, undef, undef, undef, undef, undef, undef], defers := [] }) ?assign ?body ?done ?stop
      case assign =>
        intro l x W K hK
        unfold swEnc
        gi_wp2
        exact hK
      case body =>
        rintro l pre ⟨⟨p, y⟩, hp⟩ W ⟨⟨N, R, L, O, hR⟩, B⟩ _
        have hn0 : 0 < n := by omega
        have hp' : p < 4 * n := hp
        obtain ⟨f4, fr⟩ := fillAll_form n pre
        have hq : p / n < 4 := Nat.div_lt_of_lt_mul (by omega)
        have hr : p % n < n := Nat.mod_lt _ hn0
        obtain ⟨v, b, hv, hb, hI⟩ := hR.get (p / n) (by rw [f4]; exact hq)
        have hlen := fr (p / n) hq
        have HS : Hid (fillAll n (pre ++ [⟨(p, y), hp⟩]) = (fillAll n pre).set (p / n) (((fillAll n pre).getD (p / n) []).set (p % n) y)) := fillAll_snoc n pre ⟨(p, y), hp⟩
        generalize (fillAll n pre).getD (p / n) [] = ys at *
        obtain ⟨te, hI⟩ := hI
        obtain ⟨g, cap, hbs, hvv, _⟩ := Own.shape hI (by omega)
        subst hbs
        subst hvv
        have c1 : W.cell? ⟨w.heap.size + 1 + 1, p / n, none⟩ = some (.slice (some ⟨g, 0, none⟩) n cap) := by rw [Own.cell O (p / n) (by omega), hv, hlen]
        obtain ⟨u2, c2⟩ : ∃ u, W.cell? ⟨g, p % n, none⟩ = some u := ⟨_, (Own.cell hI (p % n) (by omega)).trans (List.getElem?_eq_getElem (by simp; omega))⟩
        have f2 : W.frozen? ⟨g, p % n, none⟩ = false := Own.frozen hI (p % n)
        have na := N.at.1
        have la := L.at.1
        have hgb : g ∈ bi.flatten := mem_flat hb (by simp)
        have hgg := hgt g hgb
        have hgl := hR.lt g hgb
        have hdv : (p : Int) / (n : Int) = ((p / n : Nat) : Int) := rfl
        have hmd : (p : Int) % (n : Int) = ((p % n : Nat) : Int) := rfl
        generalize p / n = q at *
        generalize p % n = r at *
        have hnz : ((n : Int) == 0) = false := by simp; omega
        have hq' : (q : Int) < 4 := by omega
        have hr' : (r : Int) < (n : Int) := by omega
        have hq0 : (0 : Int) ≤ (q : Int) := by omega
        have hr0 : (0 : Int) ≤ (r : Int) := by omega
        have hp0 : (0 : Int) ≤ (p : Int) := by omega
        have hp1 : (p : Int) ≤ 3600 := by omega
        have htm : Int.tmod (p : Int) (n : Int) = (r : Int) := by rw [Int.tmod_eq_emod_of_nonneg hp0]; exact hmd
        have htd : Int.tdiv (p : Int) (n : Int) = (q : Int) := by rw [Int.tdiv_eq_ediv_of_nonneg hp0]; exact hdv
        have HI : Hid (Own W te 1 (.slice (some ⟨g, 0, none⟩) ys.length cap) ys.length (ys.map (Value.int .i64)) [g]) := hI
        have HL : Hid (ys.length = n) := hlen
        clear hI hlen
        have hmx : Try.prog.follows .mixedOrders = true := by kernel_rfl
        have hne0 : ¬ n = 0 := by omega
        have hwq : IntKind.i64.wrap (q : Int) = (q : Int) := wrap_small q (by omega)
        have hwr : IntKind.i64.wrap (r : Int) = (r : Int) := wrap_small r (by omega)
        gi_wp2
        have hS : (fun V : World => (∀ o, V.cell? ⟨w.heap.size, o, none⟩ = (#[.int .i64 n] : Array Value)[o]?) ∧ (∀ o, V.cell? ⟨w.heap.size + 1 + 1 + 1, o, none⟩ = (#[.slice (some ⟨w.heap.size + 1 + 1, 0, none⟩) 4 4] : Array Value)[o]?) ∧ V.cell? ⟨w.heap.size + 1 + 1, q, none⟩ = some (.slice (some ⟨g, 0, none⟩) n cap)) W.drew := ⟨na, la, c1⟩
        refine wpIn_region_any hmx (anyIn_of_held (S := fun V : World => (∀ o, V.cell? ⟨w.heap.size, o, none⟩ = (#[.int .i64 n] : Array Value)[o]?) ∧ (∀ o, V.cell? ⟨w.heap.size + 1 + 1 + 1, o, none⟩ = (#[.slice (some ⟨w.heap.size + 1 + 1, 0, none⟩) 4 4] : Array Value)[o]?) ∧ V.cell? ⟨w.heap.size + 1 + 1, q, none⟩ = some (.slice (some ⟨g, 0, none⟩) n cap)) (by kernel_rfl) ?lo _ _ _ _ ?main)
        case lo => exact fun ⟨_, _, h⟩ => h
        case main =>
        refine wpAnyH_take (i := 0) (v := .slice (some ⟨w.heap.size + 1 + 1, 0, none⟩) 4 4) rfl (by kernel_rfl) (by kernel_rfl) (by kernel_rfl) (fun _ _ _ h => h) (Or.inl ⟨by rfl, ?_⟩) hS ?_
        · intro w' hSw
          go_simp
        (try simp only [Act.put]); (try simp only [List.setIfInBounds_toArray]); (try simp only [List.set_cons_succ]); (try simp only [List.set_cons_zero])
        refine wpAnyH_take (i := 1) (v := .int .i64 p) rfl (by kernel_rfl) (by kernel_rfl) (by kernel_rfl) (fun _ _ _ h => h) (Or.inl ⟨by rfl, ?_⟩) hS ?_
        · intro w' hSw
          go_simp
        (try simp only [Act.put]); (try simp only [List.setIfInBounds_toArray]); (try simp only [List.set_cons_succ]); (try simp only [List.set_cons_zero])
        refine wpAnyH_take (i := 2) (v := .int .i64 n) rfl (by kernel_rfl) (by kernel_rfl) (by kernel_rfl) (fun _ _ _ h => h) (Or.inl ⟨by rfl, ?_⟩) hS ?_
        · intro w' hSw
          go_simp
        (try simp only [Act.put]); (try simp only [List.setIfInBounds_toArray]); (try simp only [List.set_cons_succ]); (try simp only [List.set_cons_zero])
        refine wpAnyH_take (i := 3) (v := .int .i64 q) rfl (by kernel_rfl) (by kernel_rfl) (by kernel_rfl) (fun _ _ _ h => h) (Or.inl ⟨by rfl, ?_⟩) hS ?_
        · intro w' hSw
          go_simp
        (try simp only [Act.put]); (try simp only [List.setIfInBounds_toArray]); (try simp only [List.set_cons_succ]); (try simp only [List.set_cons_zero])
        refine wpAnyH_take (i := 4) (v := .pointer (some ⟨w.heap.size + 1 + 1, q, none⟩)) rfl (by kernel_rfl) (by kernel_rfl) (by kernel_rfl) (fun _ _ _ h => h) (Or.inl ⟨by rfl, ?_⟩) hS ?_
        · intro w' hSw
          go_simp
        (try simp only [Act.put]); (try simp only [List.setIfInBounds_toArray]); (try simp only [List.set_cons_succ]); (try simp only [List.set_cons_zero])
        refine wpAnyH_take (i := 5) (v := .slice (some ⟨g, 0, none⟩) n cap) rfl (by kernel_rfl) (by kernel_rfl) (by kernel_rfl) (fun _ _ _ h => h) (Or.inl ⟨by rfl, ?_⟩) hS ?_
        · intro w' hSw
          go_simp
        (try simp only [Act.put]); (try simp only [List.setIfInBounds_toArray]); (try simp only [List.set_cons_succ]); (try simp only [List.set_cons_zero])
        refine wpAnyH_take (i := 6) (v := .int .i64 p) rfl (by kernel_rfl) (by kernel_rfl) (by kernel_rfl) (fun _ _ _ h => h) (Or.inl ⟨by rfl, ?_⟩) hS ?_
        · intro w' hSw
          go_simp
        (try simp only [Act.put]); (try simp only [List.setIfInBounds_toArray]); (try simp only [List.set_cons_succ]); (try simp only [List.set_cons_zero])
        refine wpAnyH_take (i := 7) (v := .int .i64 n) rfl (by kernel_rfl) (by kernel_rfl) (by kernel_rfl) (fun _ _ _ h => h) (Or.inl ⟨by rfl, ?_⟩) hS ?_
        · intro w' hSw
          go_simp
        (try simp only [Act.put]); (try simp only [List.setIfInBounds_toArray]); (try simp only [List.set_cons_succ]); (try simp only [List.set_cons_zero])
        refine wpAnyH_take (i := 8) (v := .int .i64 r) rfl (by kernel_rfl) (by kernel_rfl) (by kernel_rfl) (fun _ _ _ h => h) (Or.inl ⟨by rfl, ?_⟩) hS ?_
        · intro w' hSw
          go_simp
        (try simp only [Act.put]); (try simp only [List.setIfInBounds_toArray]); (try simp only [List.set_cons_succ]); (try simp only [List.set_cons_zero])
        refine wpAnyH_take (i := 9) (v := .int .i64 y) rfl (by kernel_rfl) (by kernel_rfl) (by kernel_rfl) (fun _ _ _ h => h) (Or.inl ⟨by rfl, ?_⟩) hS ?_
        · intro w' hSw
          go_simp
        (try simp only [Act.put]); (try simp only [List.setIfInBounds_toArray]); (try simp only [List.set_cons_succ]); (try simp only [List.set_cons_zero])
        refine wpAnyH_take (i := 10) (v := .pointer (some ⟨g, r, none⟩)) rfl (by kernel_rfl) (by kernel_rfl) (by kernel_rfl) (fun _ _ _ h => h) (Or.inl ⟨by rfl, ?_⟩) hS ?_
        · intro w' hSw
          go_simp
        (try simp only [Act.put]); (try simp only [List.setIfInBounds_toArray]); (try simp only [List.set_cons_succ]); (try simp only [List.set_cons_zero])
        refine wpAnyH_ready (rs := [11]) (by kernel_rfl) (by simp) ?_
        refine AllReadyH.cons (o := _) rfl (fun K hK => ?_) AllReadyH.nil
        have hS1 : (fun V : World => (∀ o, V.cell? ⟨w.heap.size, o, none⟩ = (#[.int .i64 n] : Array Value)[o]?) ∧ (∀ o, V.cell? ⟨w.heap.size + 1 + 1 + 1, o, none⟩ = (#[.slice (some ⟨w.heap.size + 1 + 1, 0, none⟩) 4 4] : Array Value)[o]?) ∧ V.cell? ⟨w.heap.size + 1 + 1, q, none⟩ = some (.slice (some ⟨g, 0, none⟩) n cap)) (W.setCell ⟨g, r, none⟩ (.int .i64 y)).drew := by
          have N1 := N.setOther ⟨g, r, none⟩ (.int .i64 y) (by simp; omega)
          have L1 := L.setOther ⟨g, r, none⟩ (.int .i64 y) (by simp; omega)
          have O1 := Own.setOther O ⟨g, r, none⟩ (.int .i64 y) (by simp; omega)
          exact ⟨N1.at.1, L1.at.1, by
            show (W.setCell ⟨g, r, none⟩ (.int .i64 y)).cell? _ = _
            rw [Own.cell O1 q (by omega)]
            rw [← c1, Own.cell O q (by omega)]⟩
        have I1 : Ints (W.setCell ⟨g, r, none⟩ (.int .i64 y)) (.slice (some ⟨g, 0, none⟩) ys.length cap) (ys.set r y) [g] := by
          have := Own.set HI.out r (.int .i64 y)
          unfold Ints
          rw [List.length_set, List.map_set]
          exact ⟨_, this⟩
        have Q1 := hR.upd (ys := ys.set r y) (w' := W.setCell ⟨g, r, none⟩ (.int .i64 y)) (by rw [f4]; exact hq) hv hb ((Off.refl _ _).setCell _ _ (by simp)) I1 hnd2
        rw [← HS.out] at Q1
        have fin : KeepsOthers W (W.setCell ⟨g, r, none⟩ (.int .i64 y)).drew ∧ KeepsWalks W (W.setCell ⟨g, r, none⟩ (.int .i64 y)).drew ∧ (Blk (W.setCell ⟨g, r, none⟩ (.int .i64 y)).drew w.heap.size 2 #[.int .i64 n] ∧ Blk (W.setCell ⟨g, r, none⟩ (.int .i64 y)).drew (w.heap.size + 1) 46 #[.int .i64 0, .slice none 0 0] ∧ Blk (W.setCell ⟨g, r, none⟩ (.int .i64 y)).drew (w.heap.size + 1 + 1 + 1) 40 #[.slice (some ⟨w.heap.size + 1 + 1, 0, none⟩) 4 4] ∧ Own (W.setCell ⟨g, r, none⟩ (.int .i64 y)).drew 33 1 (.slice (some ⟨w.heap.size + 1 + 1, 0, none⟩) 4 4) 4 vs [w.heap.size + 1 + 1] ∧ Rows (W.setCell ⟨g, r, none⟩ (.int .i64 y)).drew vs (fillAll n (pre ++ [⟨(p, y), hp⟩])) bi) ∧ Below w.heap.size w (W.setCell ⟨g, r, none⟩ (.int .i64 y)).drew :=
          ⟨(KeepsOthers.setCell _ _ _).trans (KeepsOthers.drew _), ((KeepsOthers.setCell _ _ _).trans (KeepsOthers.drew _)).walks, ⟨(N.setOther _ _ (by simp; omega)).drew, (R.setOther _ _ (by simp; omega)).drew, (L.setOther _ _ (by simp; omega)).drew, Own.setOther O _ _ (by simp; omega), Q1.keep (Below.refl _ _).drew⟩, (B.setCell (p := ⟨g, r, none⟩) (by simp; omega) _).drew⟩
        go_simp
        refine hK.out _ _ hS1 (fun _ => wpAnyH_done (by kernel_rfl) ?_ _)
        exact fin
      case done =>
        rintro D zs W hD rfl ⟨⟨N, R, L, O, hR⟩, B⟩ hK
        rw [fillAll_end] at hR
        have ra := R.at.1
        have rb := R.at.2
        have la := L.at.1
        have HL4 : Hid ((seedRows s n).length = 4) := by show _ = _; simp [seedRows]
        have OO : Off [w.heap.size + 1] W ((W.setCell ⟨w.heap.size + 1, 0, none⟩ (.int .i64 0)).setCell ⟨w.heap.size + 1, 1, none⟩ (.slice (some ⟨w.heap.size + 1 + 1, 0, none⟩) 4 4)) := ((Off.refl _ _).setCell _ _ (by simp)).setCell _ _ (by simp)
        have O2 := Own.off O OO (fun x hx hm => by simp at hx hm; omega)
        have Q2 := hR.off OO (fun x hx hm => by have := hgt x hx; simp at hm; omega)
        have R2 : Blk ((W.setCell ⟨w.heap.size + 1, 0, none⟩ (.int .i64 0)).setCell ⟨w.heap.size + 1, 1, none⟩ (.slice (some ⟨w.heap.size + 1 + 1, 0, none⟩) 4 4)) (w.heap.size + 1) 46 #[.int .i64 0, .slice (some ⟨w.heap.size + 1 + 1, 0, none⟩) 4 4] := Blk.of_eq ((R.set 0 (.int .i64 0)).set 1 (.slice (some ⟨w.heap.size + 1 + 1, 0, none⟩) 4 4)) (by simp)
        have K2 := ((KeepsOthers.setCell W ⟨w.heap.size + 1, 0, none⟩ (.int .i64 0)).trans (KeepsOthers.setCell _ ⟨w.heap.size + 1, 1, none⟩ (.slice (some ⟨w.heap.size + 1 + 1, 0, none⟩) 4 4))).same D _ hK rfl
        have B2 := B.trans (OO.toBelow B.size (by simp))
        have hg2 := grownBy_putObj' ((W.setCell ⟨w.heap.size + 1, 0, none⟩ (.int .i64 0)).setCell ⟨w.heap.size + 1, 1, none⟩ (.slice (some ⟨w.heap.size + 1 + 1, 0, none⟩) 4 4)) D (.deferred none)
        have hr2 : ∀ r, some D = some r → ∃ o : Obj, ((W.setCell ⟨w.heap.size + 1, 0, none⟩ (.int .i64 0)).setCell ⟨w.heap.size + 1, 1, none⟩ (.slice (some ⟨w.heap.size + 1 + 1, 0, none⟩) 4 4)).heap[r]? = some o ∧ o.isCells = false := fun r e => by cases e; exact ⟨_, K2, rfl⟩
        have O3 := Own.kept hg2 hr2 O2
        have Q3 := Rows.kept hg2 hr2 Q2
        have R3 := R2.kept hg2 hr2
        have ra3 := R3.at.1
        have B3 := B2.trans (belowK_b (w := w) (Nat.le_refl _) _ D _ (.deferred none) (by omega) K2 rfl rfl)
        have hM : Mat (((W.setCell ⟨w.heap.size + 1, 0, none⟩ (.int .i64 0)).setCell ⟨w.heap.size + 1, 1, none⟩ (.slice (some ⟨w.heap.size + 1 + 1, 0, none⟩) 4 4)).putObj D (.deferred none)) (.slice (some ⟨w.heap.size + 1 + 1, 0, none⟩) 4 4) (seedRows s n) ([w.heap.size + 1 + 1] ++ bi.flatten) := ⟨vs, [w.heap.size + 1 + 1], bi, by rw [HL4.out]; exact O3, Q3, rfl, hnd⟩
        clear OO O2 Q2 R2 B2 hg2 hr2 O3 Q3 O hR B
        gi_wp2
        refine ⟨by simp, .inl ⟨_, _, rfl, run_takeDeferred K2, ?_⟩⟩
        refine ⟨.agg #[.int .i64 0, .slice (some ⟨w.heap.size + 1 + 1, 0, none⟩) 4 4], by simp [results, Try.results34, go_sem, ra3], _, [w.heap.size + 1 + 1] ++ bi.flatten, rfl, ⟨some ⟨w.heap.size + 1 + 1, 0, none⟩, 4, by rw [HL4.out], by rw [HL4.out]; exact hM⟩, ?_, B3⟩
        intro x hx
        rcases List.mem_append.1 hx with h | h
        · simp at h; omega
        · have := hgt x h; omega
      case stop =>
        rintro D c pre W _ _ h _
        exact h.elim
theorem impl_SeedTape (s n : Int) (w : World) :
    Calls Try.prog 34 #[.int .i64 s, .int .i64 n] w fun e w' => ∃ u b0, e = .returned u ∧ OwTapeResult w' u (seedR s n) b0 ∧ (∀ y ∈ b0, w.heap.size ≤ y) ∧ Below w.heap.size w w' := by
  by_cases h : (0 ≤ s ∧ s ≤ 65535) ∧ (0 ≤ n ∧ n ≤ 900)
  · obtain ⟨m, rfl⟩ := Int.eq_ofNat_of_zero_le h.2.1
    have e : seedR s m = ⟨0, seedRows s m⟩ := if_pos h
    rw [e]
    exact impl_SeedTape_yes s m w h.1.1 h.1.2 (by omega)
  · exact impl_SeedTape_no s n w h
end Go.Proofs.Ytadppilldijijaa
