/-
  Many inputs, plain; an input of a net in a box, the net as one word.
-/
import Derived.Test.YtbmemdgeohnpnalGreatInM
import Derived.Test.YtbmemdgeohnpnalGreatNin
import Derived.Test.YtbmemdgeohnpnalGreatTy2
namespace Go.Proofs.YtbmemdgeohnpnalGreat
open Go.ChangeShapes Go.WideShapes Go.ChangeAt Go.RowKit
set_option linter.unusedVariables false

theorem inU_val (us : List Int) (o : Nat) : ∀ n j, (inU us o n).getD j 0 = us.getD j 0 ∨ (inU us o n).getD j 0 = us.getD j 0 + 1
  | 0, j => .inl rfl
  | n + 1, j => by
    by_cases h : n = o
    · rw [inU_out h]; exact inU_val us o n j
    · rw [inU_in h]
      by_cases e : n = j
      · subst e
        by_cases k : n < (inU us o n).length
        · right
          rw [List.getD_eq_getElem?_getD, List.getElem?_set_self k, Option.getD_some, inU_ge us o n n (Nat.le_refl _)]
        · left
          rw [List.set_eq_of_length_le (by omega), inU_ge us o n n (Nat.le_refl _)]
      · have : ((inU us o n).set n ((inU us o n).getD n 0 + 1)).getD j 0 = (inU us o n).getD j 0 := by
          rw [List.getD_eq_getElem?_getD, List.getElem?_set_ne e, ← List.getD_eq_getElem?_getD]
        rw [this]
        exact inU_val us o n j
theorem inU_own (us : List Int) (o : Nat) : ∀ n, (inU us o n).getD o 0 = us.getD o 0
  | 0 => rfl
  | n + 1 => by
    by_cases h : n = o
    · rw [inU_out h]; exact inU_own us o n
    · rw [inU_in h, List.getD_eq_getElem?_getD, List.getElem?_set_ne h, ← List.getD_eq_getElem?_getD]
      exact inU_own us o n
theorem inHd_val (x : MNet) (o : Nat) (left : Int) : ∀ n j, ((inHd x o left n).getD j []).length ≤ (x.xHeard.getD j []).length + 1
  | 0, j => Nat.le_succ _
  | n + 1, j => by
    by_cases h : n = o
    · rw [(in2_out h).2.1]; exact inHd_val x o left n j
    · rw [(in2_in (x := x) (left := left) h).2.1]
      by_cases e : n = j
      · subst e
        by_cases k : n < (inHd x o left n).length
        · rw [List.getD_eq_getElem?_getD, List.getElem?_set_self k, Option.getD_some, inHd_ge x o left n n (Nat.le_refl _), List.length_append]
          exact Nat.le_refl _
        · rw [List.set_eq_of_length_le (by omega)]
          exact inHd_val x o left n n
      · have : ((inHd x o left n).set n ((inHd x o left n).getD n [] ++ [inT x o left n])).getD j [] = (inHd x o left n).getD j [] := by
          rw [List.getD_eq_getElem?_getD, List.getElem?_set_ne e, ← List.getD_eq_getElem?_getD]
        rw [this]
        exact inHd_val x o left n j
theorem NetB.gave {m : Nat} {x : MNet} (h : NetB m x) (o : Nat) (v : Int) : NetB (m + 2) (gaveN x o v) := by
  refine ⟨h.t4, by show (inU _ _ _).length = 4; rw [inU_len]; exact h.u4, by show (inHd _ _ _ _).length = 4; rw [inHd_len]; exact h.h4, fun j hj => ?_, h.wd, ?_, h.by', fun j => ?_⟩
  · have a := h.us j hj
    show 0 ≤ (inU x.xUsed o 4).getD j 0 ∧ (inU x.xUsed o 4).getD j 0 ≤ _
    rcases inU_val x.xUsed o 4 j with k | k <;> rw [k] <;> omega
  · have a := h.st
    have b := inSt_bd x o 4
    show 0 ≤ inSt x o 4 ∧ inSt x o 4 ≤ _
    omega
  · have a := h.hr j
    have b := inHd_val x o (inL x o v 4) 4 j
    show ((inHd x o (inL x o v 4) 4).getD j []).length ≤ _
    omega
def gvX (x : MNet) (o : Nat) : List Int → MNet
  | [] => x
  | v :: r => gvX (gaveN x o v) o r
theorem gvX_snoc (o : Nat) (v : Int) : ∀ (vs : List Int) (x : MNet), gvX x o (vs ++ [v]) = gaveN (gvX x o vs) o v
  | [], x => rfl
  | u :: r, x => gvX_snoc o v r (gaveN x o u)
def gvM (x : MNet) (o : Nat) : List Int → List MMirror
  | [] => []
  | v :: r => ⟨256, mirRows (inParts x o v)⟩ :: gvM (gaveN x o v) o r
theorem gvM_snoc (o : Nat) (v : Int) : ∀ (vs : List Int) (x : MNet), gvM x o (vs ++ [v]) = gvM x o vs ++ [⟨256, mirRows (inParts (gvX x o vs) o v)⟩]
  | [], x => rfl
  | u :: r, x => by
    show _ :: gvM (gaveN x o u) o (r ++ [v]) = _
    rw [gvM_snoc o v r (gaveN x o u)]
    rfl
theorem gvM_len (o : Nat) : ∀ (vs : List Int) (x : MNet), (gvM x o vs).length = vs.length
  | [], x => rfl
  | u :: r, x => by simp only [gvM, List.length_cons, gvM_len o r]
theorem gvX_B (o : Nat) : ∀ (vs : List Int) {m : Nat} {x : MNet}, NetB m x → NetB (m + 2 * vs.length) (gvX x o vs)
  | [], m, x, h => h.mono (by simp)
  | u :: r, m, x, h => (gvX_B o r (h.gave o u)).mono (by simp only [List.length_cons]; omega)
def manyC (x : MNet) (o : Int) (vs : List Int) : Int := if ownC x o = 0 then (if vs.length ≤ 60 then elC 256 vs else 2) else ownC x o
def badMany (c : Int) : MManyResult := ⟨c, [], ⟨[], [], 0, [], ⟨0, 0, 0, false⟩, ⟨false, 0, 0, 0, 0, 0, 0, 0⟩⟩⟩
def manyR (x : MNet) (o : Int) (vs : List Int) : MManyResult := if manyC x o vs = 0 then ⟨0, gvM x o.toNat vs, gvX x o.toNat vs⟩ else badMany (manyC x o vs)
theorem manyC_own {x : MNet} {o : Int} {vs : List Int} (h : ownC x o ≠ 0) : manyC x o vs = ownC x o := if_neg h
theorem manyC_many {x : MNet} {o : Int} {vs : List Int} (h : ownC x o = 0) (k : ¬ vs.length ≤ 60) : manyC x o vs = 2 := by unfold manyC; rw [if_pos h, if_neg k]
theorem manyC_el {x : MNet} {o : Int} {vs : List Int} (h : ownC x o = 0) (k : vs.length ≤ 60) : manyC x o vs = elC 256 vs := by unfold manyC; rw [if_pos h, if_pos k]
theorem manyR_bad {x : MNet} {o : Int} {vs : List Int} (h : manyC x o vs ≠ 0) : manyR x o vs = badMany (manyC x o vs) := if_neg h
theorem manyR_ok {x : MNet} {o : Nat} {vs : List Int} (h : manyC x o vs = 0) : manyR x o vs = ⟨0, gvM x o vs, gvX x o vs⟩ := if_pos h
def OutMany (w w' : World) (r : MManyResult) (e : Ending) : Prop := ∃ u b0 b1 b2 b3, e = .returned u ∧ OwManyResult w' u r b0 b1 b2 b3 ∧ (∀ y ∈ b0, w.heap.size ≤ y) ∧ (∀ y ∈ b1, w.heap.size ≤ y) ∧ (∀ y ∈ b2, w.heap.size ≤ y) ∧ (∀ y ∈ b3, w.heap.size ≤ y) ∧ Below w.heap.size w w'
theorem OutMany.bad {w W : World} (c : Int) (h : Below w.heap.size w W) : OutMany w W (badMany c) (.returned (.agg #[.int .i64 c, .slice none 0 0, .slice none 0 0, .slice none 0 0, .int .i64 0, .slice none 0 0, .int .i64 0, .int .i64 0, .int .i64 0, .bool false, .bool false, .int .i64 0, .int .i64 0, .int .i64 0, .int .i64 0, .int .i64 0, .int .i64 0, .int .i64 0])) :=
  ⟨_, [], [], [], [], rfl, ⟨none, 0, none, 0, none, 0, none, 0, rfl, OwMirrorS.nil _, Mat.nil _, ⟨0, rfl, .inl ⟨rfl, rfl, rfl⟩⟩, Mat.nil _, by simp [Dj], by simp [Dj], by simp [Dj], by simp [Dj], by simp [Dj], by simp [Dj]⟩, by simp, by simp, by simp, by simp, h⟩
theorem impl_input_net (b0 : Nat) (x : MNet) (bs : List Nat) (o : Nat) (v : Int) (m : Nat) (w : World) (N : NetIn w b0 x bs) (B : NetB m x) (hm : m ≤ 1000) (ho : o < 4) (hv : 0 ≤ v ∧ v < 256) :
    Calls Tryz.prog 64 #[.pointer (some ⟨b0, 0, none⟩), .int .i64 o, .int .i64 v] w fun e w' => ∃ p c bm cs, e = .returned (.agg #[.int .i64 256, .slice p 4 c]) ∧ Mat w' (.slice p 4 c) (mirRows (inParts x o v)) bm ∧ (∀ y ∈ bm, w.heap.size ≤ y ∧ y ∉ cs) ∧ NetIn w' b0 (gaveN x o v) cs ∧ (∀ y ∈ cs, y ∈ bs ∨ w.heap.size ≤ y) ∧ Off (b0 :: bs) w w' := by
  obtain ⟨q0, q1, gH, d0, d1, d2, bt, b1, b2, Z, T, U, H, n0, n1, n2, e01, e02, e12, rfl⟩ := N
  have lb := Z.lt
  have lt := T.lt
  have lu := U.lt
  refine (impl_input b0 x q0 q1 gH d0 d1 d2 bt b1 b2 o v w Z T U H n0 n1 n2 e01 e02 e12 ho hv ⟨B.t4, B.u4, B.h4⟩ (fun j hj => by have := B.us j hj; omega) B.wd (by have := B.st; omega) B.by' (fun j => by have := B.hr j; omega)).mono ?_
  rintro e w3 ⟨p6, c6, bm, cs, rfl, M3, hf3, djm, Z3, T3, U3, H3, hcs3, O3⟩
  refine ⟨p6, c6, bm, bt ++ (b1 ++ cs), rfl, M3, fun y hy => ⟨hf3 y hy, fun hc => ?_⟩, ⟨q0, q1, gH, d0, d1, d2, bt, b1, cs, ?_, T3, ?_, ?_, n0, n1, fun hc => ?_, e01, fun y hy hc => ?_, fun y hy hc => ?_, rfl⟩, fun y hy => ?_, O3.mono (fun y hy => ?_)⟩
  · have h3 := hf3 y hy
    rcases List.mem_append.1 hc with h | h
    · have := lt y h; omega
    · rcases List.mem_append.1 h with h | h
      · have := lu y h; omega
      · exact djm y hy h
  · show Blk w3 b0 41 #[.slice q0 x.xTape.length d0, .slice q1 (inU x.xUsed o 4).length d1, .int .i64 (inSt x o 4), .slice (some ⟨gH, 0, none⟩) (inHd x o (inL x o v 4) 4).length d2, .int .i64 x.xCheat.xWho, .int .i64 x.xCheat.xAt, .int .i64 x.xCheat.xBy, .bool x.xCheat.xCry, .bool x.xQuarrel.xSome, .int .i64 x.xQuarrel.xFrom, .int .i64 x.xQuarrel.xCheck, .int .i64 x.xQuarrel.xTo, .int .i64 x.xQuarrel.xTold, .int .i64 x.xQuarrel.xHeard, .int .i64 x.xQuarrel.xOther, .int .i64 x.xQuarrel.xVowed]
    rw [inU_len, inHd_len]
    exact Z3
  · show Ints w3 (.slice q1 (inU x.xUsed o 4).length d1) (inU x.xUsed o 4) b1
    rw [inU_len]
    exact U3
  · show MatT w3 (.slice (some ⟨gH, 0, none⟩) (inHd x o (inL x o v 4) 4).length d2) (inHd x o (inL x o v 4) 4) cs
    rw [inHd_len]
    exact H3
  · rcases hcs3 _ hc with h | h
    · exact n2 h
    · omega
  · rcases hcs3 _ hc with h | h
    · exact e02 y hy h
    · have := lt y hy; omega
  · rcases hcs3 _ hc with h | h
    · exact e12 y hy h
    · have := lu y hy; omega
  · rcases List.mem_append.1 hy with h | h
    · exact .inl (by simp [h])
    · rcases List.mem_append.1 h with h | h
      · exact .inl (by simp [h])
      · rcases hcs3 y h with h | h
        · exact .inl (by simp [h])
        · exact .inr h
  · rcases List.mem_cons.1 hy with h | h
    · simp [h]
    · rcases List.mem_append.1 h with h | h <;> simp [h]
end Go.Proofs.YtbmemdgeohnpnalGreat
