/-
  A net in a box of its own, said as one word; what bounds its counts; words taken and messages told, said so.
-/
import Derived.Test.YtepobckhfodngaoGreatJnL
import Derived.Test.YtepobckhfodngaoGreatCopyT
namespace Go.Proofs.YtepobckhfodngaoGreat
open Go.ChangeShapes Go.WideShapes Go.ChangeAt Go.RowKit
set_option linter.unusedVariables false

/-- the net x lies in block b0, its lists in the blocks bs -/
def NetIn (w : World) (b0 : Nat) (x : MNet) (bs : List Nat) : Prop :=
  ∃ q0 q1 gH d0 d1 d2 bt b1 b2, Blk w b0 41 #[.slice q0 x.xTape.length d0, .slice q1 x.xUsed.length d1, .int .i64 x.xSent, .slice (some ⟨gH, 0, none⟩) x.xHeard.length d2, .int .i64 x.xCheat.xWho, .int .i64 x.xCheat.xAt, .int .i64 x.xCheat.xBy, .bool x.xCheat.xCry, .bool x.xQuarrel.xSome, .int .i64 x.xQuarrel.xFrom, .int .i64 x.xQuarrel.xCheck, .int .i64 x.xQuarrel.xTo, .int .i64 x.xQuarrel.xTold, .int .i64 x.xQuarrel.xHeard, .int .i64 x.xQuarrel.xOther, .int .i64 x.xQuarrel.xVowed] ∧ Mat w (.slice q0 x.xTape.length d0) x.xTape bt ∧ Ints w (.slice q1 x.xUsed.length d1) x.xUsed b1 ∧ MatT w (.slice (some ⟨gH, 0, none⟩) x.xHeard.length d2) x.xHeard b2 ∧ b0 ∉ bt ∧ b0 ∉ b1 ∧ b0 ∉ b2 ∧ Dj bt b1 ∧ Dj bt b2 ∧ Dj b1 b2 ∧ bs = bt ++ (b1 ++ b2)
theorem NetIn.lt {w : World} {b0 : Nat} {x : MNet} {bs : List Nat} (h : NetIn w b0 x bs) : b0 < w.heap.size := by
  obtain ⟨q0, q1, gH, d0, d1, d2, bt, b1, b2, Z, T, U, H, n0, n1, n2, e01, e02, e12, rfl⟩ := h
  exact Z.lt
theorem NetIn.lts {w : World} {b0 : Nat} {x : MNet} {bs : List Nat} (h : NetIn w b0 x bs) : ∀ y ∈ bs, y < w.heap.size := by
  obtain ⟨q0, q1, gH, d0, d1, d2, bt, b1, b2, Z, T, U, H, n0, n1, n2, e01, e02, e12, rfl⟩ := h
  intro y hy
  rcases List.mem_append.1 hy with h | h
  · exact T.lt y h
  · rcases List.mem_append.1 h with h | h
    · exact U.lt y h
    · exact H.lt y h
theorem NetIn.nin {w : World} {b0 : Nat} {x : MNet} {bs : List Nat} (h : NetIn w b0 x bs) : b0 ∉ bs := by
  obtain ⟨q0, q1, gH, d0, d1, d2, bt, b1, b2, Z, T, U, H, n0, n1, n2, e01, e02, e12, rfl⟩ := h
  intro hm
  rcases List.mem_append.1 hm with h | h
  · exact n0 h
  · rcases List.mem_append.1 h with h | h
    · exact n1 h
    · exact n2 h
theorem NetIn.off {w w' : World} {b0 : Nat} {x : MNet} {bs cs : List Nat} (h : NetIn w b0 x bs) (k : Off cs w w') (h0 : b0 ∉ cs) (hd : ∀ y ∈ bs, y ∉ cs) : NetIn w' b0 x bs := by
  obtain ⟨q0, q1, gH, d0, d1, d2, bt, b1, b2, Z, T, U, H, n0, n1, n2, e01, e02, e12, rfl⟩ := h
  exact ⟨q0, q1, gH, d0, d1, d2, bt, b1, b2, Z.off k h0, T.off k (fun y hy => hd y (by simp [hy])), U.off k (fun y hy => hd y (by simp [hy])), H.off k (fun y hy => hd y (by simp [hy])), n0, n1, n2, e01, e02, e12, rfl⟩
theorem NetIn.keep {w w' : World} {b0 : Nat} {x : MNet} {bs : List Nat} (h : NetIn w b0 x bs) (k : Below w.heap.size w w') : NetIn w' b0 x bs := h.off (cs := []) (Off.ofBelow k) (by simp) (by simp)
theorem NetIn.alloc {w : World} {b0 : Nat} {x : MNet} {bs : List Nat} (h : NetIn w b0 x bs) (o : Obj) : NetIn (w.alloc o) b0 x bs := h.keep ((Below.refl _ _).alloc (Nat.le_refl _) _)
theorem NetIn.drew {w : World} {b0 : Nat} {x : MNet} {bs : List Nat} (h : NetIn w b0 x bs) : NetIn w.drew b0 x bs := h.keep (Below.refl _ _).drew
theorem NetIn.set {w : World} {b0 : Nat} {x : MNet} {bs : List Nat} (h : NetIn w b0 x bs) (a : Addr) (u : Value) (h0 : b0 ≠ a.block) (hd : a.block ∉ bs) : NetIn (w.setCell a u) b0 x bs :=
  h.off (cs := [a.block]) ((Off.refl _ _).setCell _ _ (.inl (by simp))) (by simp [h0]) (fun y hy hm => by simp at hm; exact hd (hm ▸ hy))
/-- where its cells lie -/
theorem NetIn.some8 {w : World} {b0 : Nat} {x : MNet} {bs : List Nat} (h : NetIn w b0 x bs) : w.cell? ⟨b0, 8, none⟩ = some (.bool x.xQuarrel.xSome) := by
  obtain ⟨q0, q1, gH, d0, d1, d2, bt, b1, b2, Z, -⟩ := h
  exact Z.at.1 8
/-- what is owned, put into a box -/
theorem NetIn.of {w : World} {b0 : Nat} {x : MNet} {q0 q1 q2 : Option Addr} {d0 d1 d2 : Nat} {bt b1 b2 : List Nat} (Z : Blk w b0 41 #[.slice q0 x.xTape.length d0, .slice q1 x.xUsed.length d1, .int .i64 x.xSent, .slice q2 x.xHeard.length d2, .int .i64 x.xCheat.xWho, .int .i64 x.xCheat.xAt, .int .i64 x.xCheat.xBy, .bool x.xCheat.xCry, .bool x.xQuarrel.xSome, .int .i64 x.xQuarrel.xFrom, .int .i64 x.xQuarrel.xCheck, .int .i64 x.xQuarrel.xTo, .int .i64 x.xQuarrel.xTold, .int .i64 x.xQuarrel.xHeard, .int .i64 x.xQuarrel.xOther, .int .i64 x.xQuarrel.xVowed]) (T : Mat w (.slice q0 x.xTape.length d0) x.xTape bt) (U : Ints w (.slice q1 x.xUsed.length d1) x.xUsed b1) (H : MatT w (.slice q2 x.xHeard.length d2) x.xHeard b2)
    (n0 : b0 ∉ bt) (n1 : b0 ∉ b1) (n2 : b0 ∉ b2) (e01 : Dj bt b1) (e02 : Dj bt b2) (e12 : Dj b1 b2) (h4 : 0 < x.xHeard.length) : NetIn w b0 x (bt ++ (b1 ++ b2)) := by
  obtain ⟨gH, d2b, eg⟩ : ∃ gH d2b, Value.slice q2 x.xHeard.length d2 = .slice (some ⟨gH, 0, none⟩) x.xHeard.length d2b := by
    obtain ⟨vs, bo, bi, g1, g2, rfl, g3⟩ := H
    obtain ⟨g, c, rfl, eg, -, -⟩ := Own.shape g1 h4
    exact ⟨g, c, eg⟩
  simp only [Value.slice.injEq, true_and] at eg
  obtain ⟨rfl, rfl⟩ := eg
  exact ⟨q0, q1, gH, d0, d1, d2, bt, b1, b2, Z, T, U, H, n0, n1, n2, e01, e02, e12, rfl⟩

/-- what bounds a net behind m steps -/
structure NetB (m : Nat) (x : MNet) : Prop where
  t4 : x.xTape.length = 4
  u4 : x.xUsed.length = 4
  h4 : x.xHeard.length = 4
  us : ∀ j, j < 4 → 0 ≤ x.xUsed.getD j 0 ∧ x.xUsed.getD j 0 ≤ 99999 + m
  wd : ∀ l k : Int, 0 ≤ word x.xTape l k
  st : 0 ≤ x.xSent ∧ x.xSent ≤ 99999 + 3 * m
  by' : 0 ≤ x.xCheat.xBy ∧ x.xCheat.xBy ≤ 255
  hr : ∀ j, (x.xHeard.getD j []).length ≤ 16777216 + 3 * m
theorem NetB.mono {m n : Nat} {x : MNet} (h : NetB m x) (k : m ≤ n) : NetB n x :=
  ⟨h.t4, h.u4, h.h4, fun j hj => by have := h.us j hj; omega, h.wd, by have := h.st; omega, h.by', fun j => by have := h.hr j; omega⟩
theorem NetB.of {x : MNet} (h : netC x = 0) (hx : Fit x) : NetB 0 x := by
  obtain ⟨z0, z1, z2, z3⟩ := netC_zero h
  have z2' := (listsB_iff x).1 z2
  exact ⟨by unfold tapeC at z0; by_cases h : x.xTape.length = 4; (exact h); (rw [if_neg h] at z0; cases z0), z1.1, z1.2, fun j hj => by have := (okN_iff _).1 z2'.1 j (by rw [z1.1]; exact hj); omega, fun l k => (word_ok z0 l k).1, by have := z2'.2.2; omega, (cheatC_zero z3).2.2, fun j => by have := hx.r j; omega⟩
theorem NetB.used {m : Nat} {x : MNet} (h : NetB m x) (j : Nat) (hj : j < 4) : 0 ≤ used x j ∧ used x j ≤ 99999 + m := by
  have := h.us j hj
  unfold Go.Proofs.YtepobckhfodngaoGreat.used
  rw [Int.toNat_natCast]
  exact this
theorem getD_set_le {xs : List Int} {j k : Nat} {y : Int} {P : Int → Prop} (h : P (xs.getD k 0)) (hy : P y) : P ((xs.set j y).getD k 0) := by
  rcases Nat.decEq j k with e | e
  · rw [List.getD_eq_getElem?_getD, List.getElem?_set_ne e, ← List.getD_eq_getElem?_getD]; exact h
  · subst e
    rcases Nat.lt_or_ge j xs.length with hj | hj
    · rw [List.getD_eq_getElem?_getD, List.getElem?_set_self hj]; exact hy
    · rw [List.set_eq_of_length_le hj]; exact h
theorem getD_setL_le {xs : List (List Int)} {j k : Nat} {y : List Int} {P : List Int → Prop} (h : P (xs.getD k [])) (hy : P y) : P ((xs.set j y).getD k []) := by
  rcases Nat.decEq j k with e | e
  · rw [List.getD_eq_getElem?_getD, List.getElem?_set_ne e, ← List.getD_eq_getElem?_getD]; exact h
  · subst e
    rcases Nat.lt_or_ge j xs.length with hj | hj
    · rw [List.getD_eq_getElem?_getD, List.getElem?_set_self hj]; exact hy
    · rw [List.set_eq_of_length_le hj]; exact h
theorem NetB.took {m : Nat} {x : MNet} (h : NetB m x) (j : Nat) (hj : j < 4) : NetB (m + 1) (tookN x j) := by
  have hu := h.used j hj
  refine ⟨h.t4, by show (List.set _ _ _).length = 4; rw [List.length_set]; exact h.u4, h.h4, fun k hk => ?_, h.wd, by have := h.st; show 0 ≤ x.xSent ∧ x.xSent ≤ _; omega, h.by', fun k => by have := h.hr k; show (x.xHeard.getD k []).length ≤ _; omega⟩
  have hk' := h.us k hk
  exact getD_set_le (P := fun z => 0 ≤ z ∧ z ≤ 99999 + ((m + 1 : Nat) : Int)) (by omega) (by omega)
theorem NetB.sent {m : Nat} {x : MNet} (h : NetB m x) (q fm ck tt a b : Int) : NetB (m + 1) (sentN x q fm ck tt a b) := by
  refine ⟨h.t4, h.u4, by show (List.set _ _ _).length = 4; rw [List.length_set]; exact h.h4, fun k hk => by have := h.us k hk; show 0 ≤ x.xUsed.getD k 0 ∧ x.xUsed.getD k 0 ≤ _; omega, h.wd, by have := h.st; show 0 ≤ x.xSent + 2 ∧ x.xSent + 2 ≤ _; omega, h.by', fun k => ?_⟩
  have hk := h.hr k
  have ht := h.hr tt.toNat
  exact getD_setL_le (P := fun z => z.length ≤ 16777216 + 3 * (m + 1)) (by omega) (by rw [List.length_append]; simp only [List.length_cons, List.length_nil]; omega)
def wordQ (q : Int) (x : MNet) (j : Nat) : Int := word x.xTape j (used x j) % q
theorem wordQ_bd {q : Int} (hq : q = 2 ∨ q = 256) (x : MNet) (j : Nat) : 0 ≤ wordQ q x j ∧ wordQ q x j < q :=
  ⟨Int.emod_nonneg _ (by omega), Int.emod_lt_of_pos _ (by omega)⟩
theorem impl_take_net (b0 : Nat) (x : MNet) (bs : List Nat) (l : Nat) (q : Int) (m : Nat) (w : World) (N : NetIn w b0 x bs) (B : NetB m x) (hm : m ≤ 200000) (hl : l < 4) (hq : q = 2 ∨ q = 256) :
    Calls Tryz.prog 153 #[.pointer (some ⟨b0, 0, none⟩), .int .i64 l, .int .i64 q] w fun e w' => e = .returned (.int .i64 (wordQ q x l)) ∧ NetIn w' b0 (tookN x l) bs ∧ Off bs w w' := by
  obtain ⟨q0, q1, gH, d0, d1, d2, bt, b1, b2, Z, T, U, H, n0, n1, n2, e01, e02, e12, rfl⟩ := N
  have hu := B.used l hl
  refine (impl_take b0 x q0 q1 (some ⟨gH, 0, none⟩) d0 d1 d2 b1 l q w Z T.reads U (by rw [B.u4]; exact hl) (by rw [B.t4]; exact hl) hq (by omega) (B.wd _ _) n1).mono ?_
  rintro e w' ⟨rfl, U', o'⟩
  have eL : (tookN x l).xUsed.length = x.xUsed.length := by show (List.set _ _ _).length = _; rw [List.length_set]
  refine ⟨rfl, ⟨q0, q1, gH, d0, d1, d2, bt, b1, b2, ?_, T.off o' e01, ?_, H.off o' e12.symm, n0, n1, n2, e01, e02, e12, rfl⟩, o'.mono (fun y hy => by simp [hy])⟩
  · rw [eL]; exact Z.off o' n1
  · rw [eL]; show Ints w' _ (x.xUsed.set _ _) b1; rw [Int.toNat_natCast]; exact U'
theorem spec_l4Take_net (b0 : Nat) (x : MNet) (bs : List Nat) (l : Nat) (q : Int) (m : Nat) (w : World) (N : NetIn w b0 x bs) (B : NetB m x) (hm : m ≤ 200000) (hl : l < 4) (hq : q = 2 ∨ q = 256) :
    Calls Tryz.prog 109 #[.pointer (some ⟨b0, 0, none⟩), .int .i64 l, .int .i64 q] w fun e w' => e = .returned (.int .i64 (wordQ q x l)) ∧ NetIn w' b0 (tookN x l) bs ∧ Off bs w w' := by
  obtain ⟨q0, q1, gH, d0, d1, d2, bt, b1, b2, Z, T, U, H, n0, n1, n2, e01, e02, e12, rfl⟩ := N
  have hu := B.used l hl
  refine (spec_l4Take b0 x q0 q1 (some ⟨gH, 0, none⟩) d0 d1 d2 b1 l q w Z T.reads U (by rw [B.u4]; exact hl) (by rw [B.t4]; exact hl) hq (by omega) (B.wd _ _) n1).mono ?_
  rintro e w' ⟨rfl, U', o'⟩
  have eL : (tookN x l).xUsed.length = x.xUsed.length := by show (List.set _ _ _).length = _; rw [List.length_set]
  refine ⟨rfl, ⟨q0, q1, gH, d0, d1, d2, bt, b1, b2, ?_, T.off o' e01, ?_, H.off o' e12.symm, n0, n1, n2, e01, e02, e12, rfl⟩, o'.mono (fun y hy => by simp [hy])⟩
  · rw [eL]; exact Z.off o' n1
  · rw [eL]; show Ints w' _ (x.xUsed.set _ _) b1; rw [Int.toNat_natCast]; exact U'
theorem impl_tell_net (b0 : Nat) (x : MNet) (bs : List Nat) (q fm ck : Int) (l : Nat) (a b : Int) (m : Nat) (w : World) (N : NetIn w b0 x bs) (B : NetB m x) (hm : m ≤ 200000) (hq : q = 2 ∨ q = 256) (h3 : Three fm ck l) (hl : l < 4) (ha : 0 ≤ a ∧ a < q) (hb : 0 ≤ b ∧ b < q) :
    Calls Tryz.prog 155 #[.pointer (some ⟨b0, 0, none⟩), .int .i64 q, .int .i64 fm, .int .i64 ck, .int .i64 l, .int .i64 a, .int .i64 b] w fun e w' => e = .returned (.int .i64 (uT x q fm a)) ∧ ∃ cs, NetIn w' b0 (sentN x q fm ck l a b) cs ∧ (∀ y ∈ cs, y ∈ bs ∨ w.heap.size ≤ y) ∧ Off (b0 :: bs) w w' := by
  obtain ⟨q0, q1, gH, d0, d1, d2, bt, b1, b2, Z, T, U, H, n0, n1, n2, e01, e02, e12, rfl⟩ := N
  have ltT := T.lt
  have ltU := U.lt
  have ltZ := Z.lt
  refine (impl_tell b0 x q0 q1 gH d0 d1 d2 b2 q fm ck l a b w Z H n2 (by have := B.st; omega) hq h3 ha hb B.by' (by rw [B.h4]; exact hl) (by have := B.hr l; omega)).mono ?_
  rintro e w' ⟨rfl, cs, Z', H', hcs, o'⟩
  have eL : (sentN x q fm ck l a b).xHeard.length = x.xHeard.length := by show (List.set _ _ _).length = _; rw [List.length_set]
  refine ⟨rfl, bt ++ (b1 ++ cs), ⟨q0, q1, gH, d0, d1, d2, bt, b1, cs, ?_, T.off o' ?_, U.off o' ?_, ?_, n0, n1, ?_, e01, ?_, ?_, rfl⟩, ?_, o'.mono (fun y hy => by rcases List.mem_cons.1 hy with h | h; (simp [h]); (simp [h]))⟩
  · rw [eL]; exact Z'
  · intro y hy hm; rcases List.mem_cons.1 hm with h | h; (exact n0 (h ▸ hy)); (exact e02 y hy h)
  · intro y hy hm; rcases List.mem_cons.1 hm with h | h; (exact n1 (h ▸ hy)); (exact e12 y hy h)
  · rw [eL]; show MatT w' _ (x.xHeard.set _ (x.xHeard.getD _ [] ++ _)) cs; rw [Int.toNat_natCast]; exact H'
  · intro hm; rcases hcs _ hm with h | h; (exact n2 h); omega
  · intro y hy hm; rcases hcs _ hm with h | h; (exact e02 y hy h); (have := ltT y hy; omega)
  · intro y hy hm; rcases hcs _ hm with h | h; (exact e12 y hy h); (have := ltU y hy; omega)
  · intro y hy
    rcases List.mem_append.1 hy with h | h
    · exact .inl (by simp [h])
    · rcases List.mem_append.1 h with h | h
      · exact .inl (by simp [h])
      · rcases hcs y h with h | h
        · exact .inl (by simp [h])
        · exact .inr h
theorem spec_l4Joint_net (b0 : Nat) (x : MNet) (bs : List Nat) (q fm ck : Int) (l : Nat) (a b : Int) (m : Nat) (w : World) (N : NetIn w b0 x bs) (B : NetB m x) (hm : m ≤ 200000) (hq : q = 2 ∨ q = 256) (h3 : Three fm ck l) (hl : l < 4) (ha : 0 ≤ a ∧ a < q) (hb : 0 ≤ b ∧ b < q) :
    Calls Tryz.prog 111 #[.pointer (some ⟨b0, 0, none⟩), .int .i64 q, .agg #[.bool false, .int .i64 fm, .int .i64 ck, .int .i64 l, .int .i64 a, .int .i64 0, .int .i64 0, .int .i64 b]] w fun e w' => e = .returned (.int .i64 (uT x q fm a)) ∧ ∃ cs, NetIn w' b0 (sentN x q fm ck l a b) cs ∧ (∀ y ∈ cs, y ∈ bs ∨ w.heap.size ≤ y) ∧ Off (b0 :: bs) w w' := by
  obtain ⟨q0, q1, gH, d0, d1, d2, bt, b1, b2, Z, T, U, H, n0, n1, n2, e01, e02, e12, rfl⟩ := N
  have ltT := T.lt
  have ltU := U.lt
  have ltZ := Z.lt
  refine (spec_l4Joint b0 x q0 q1 gH d0 d1 d2 b2 q fm ck l a b w Z H n2 (by have := B.st; omega) hq h3 ha hb B.by' (by rw [B.h4]; exact hl) (by have := B.hr l; omega)).mono ?_
  rintro e w' ⟨rfl, cs, Z', H', hcs, o'⟩
  have eL : (sentN x q fm ck l a b).xHeard.length = x.xHeard.length := by show (List.set _ _ _).length = _; rw [List.length_set]
  refine ⟨rfl, bt ++ (b1 ++ cs), ⟨q0, q1, gH, d0, d1, d2, bt, b1, cs, ?_, T.off o' ?_, U.off o' ?_, ?_, n0, n1, ?_, e01, ?_, ?_, rfl⟩, ?_, o'.mono (fun y hy => by rcases List.mem_cons.1 hy with h | h; (simp [h]); (simp [h]))⟩
  · rw [eL]; exact Z'
  · intro y hy hm; rcases List.mem_cons.1 hm with h | h; (exact n0 (h ▸ hy)); (exact e02 y hy h)
  · intro y hy hm; rcases List.mem_cons.1 hm with h | h; (exact n1 (h ▸ hy)); (exact e12 y hy h)
  · rw [eL]; show MatT w' _ (x.xHeard.set _ (x.xHeard.getD _ [] ++ _)) cs; rw [Int.toNat_natCast]; exact H'
  · intro hm; rcases hcs _ hm with h | h; (exact n2 h); omega
  · intro y hy hm; rcases hcs _ hm with h | h; (exact e02 y hy h); (have := ltT y hy; omega)
  · intro y hy hm; rcases hcs _ hm with h | h; (exact e12 y hy h); (have := ltU y hy; omega)
  · intro y hy
    rcases List.mem_append.1 hy with h | h
    · exact .inl (by simp [h])
    · rcases List.mem_append.1 h with h | h
      · exact .inl (by simp [h])
      · rcases hcs y h with h | h
        · exact .inl (by simp [h])
        · exact .inr h
end Go.Proofs.YtepobckhfodngaoGreat
