/-
  Rows of products in the program: DotMirrors.
-/
import Derived.Test.YtepobckhfodngaoGreatDotW
import Derived.Deep.Cut
import Derived.Test.YtepobckhfodngaoGreatSpC
namespace Go.Proofs.YtepobckhfodngaoGreat
open Go.ChangeShapes Go.WideShapes Go.ChangeAt Go.RowKit
set_option linter.unusedVariables false

/-- a mirror and a net, piece by piece, are an answer -/
theorem OutMix.of {w W W' : World} {x : MNet} {q0 q1 : Option Addr} {gH d0 d1 d2 : Nat} {bt b1 b2 : List Nat} {m : MMirror} {p : Option Addr} {c : Nat} {bm : List Nat} (cd : Int)
    (T : Mat W (.slice q0 x.xTape.length d0) x.xTape bt) (U : Ints W (.slice q1 x.xUsed.length d1) x.xUsed b1) (H : MatT W (.slice (some ⟨gH, 0, none⟩) x.xHeard.length d2) x.xHeard b2) (e01 : Dj bt b1) (e02 : Dj bt b2) (e12 : Dj b1 b2)
    (hf : ∀ y ∈ bt ++ (b1 ++ b2), w.heap.size ≤ y ∧ W'.heap[y]? = W.heap[y]?) (M : Mat W' (.slice p m.xViews.length c) m.xViews bm) (hm : ∀ y ∈ bm, w.heap.size ≤ y ∧ y ∉ bt ++ (b1 ++ b2)) (B : Below w.heap.size w W') :
    OutMix w W' ⟨cd, m, x⟩ (.returned (.agg #[.int .i64 cd, .int .i64 m.xQ, .slice p m.xViews.length c, .slice q0 x.xTape.length d0, .slice q1 x.xUsed.length d1, .int .i64 x.xSent, .slice (some ⟨gH, 0, none⟩) x.xHeard.length d2, .int .i64 x.xCheat.xWho, .int .i64 x.xCheat.xAt, .int .i64 x.xCheat.xBy, .bool x.xCheat.xCry, .bool x.xQuarrel.xSome, .int .i64 x.xQuarrel.xFrom, .int .i64 x.xQuarrel.xCheck, .int .i64 x.xQuarrel.xTo, .int .i64 x.xQuarrel.xTold, .int .i64 x.xQuarrel.xHeard, .int .i64 x.xQuarrel.xOther, .int .i64 x.xQuarrel.xVowed])) :=
  ⟨_, bm, bt, b1, b2, rfl, ⟨p, c, q0, d0, q1, d1, some ⟨gH, 0, none⟩, d2, rfl, M, T.frame (fun g hg => (hf g (by simp [hg])).2), U.frame (fun g hg => (hf g (by simp [hg])).2), (H.frame (fun g hg => (hf g (by simp [hg])).2)).mat, (fun g hg hh => (hm g hg).2 (by simp [hh])), (fun g hg hh => (hm g hg).2 (by simp [hh])), (fun g hg hh => (hm g hg).2 (by simp [hh])), e01, e02, e12⟩, fun y hy => (hm y hy).1, fun y hy => (hf y (by simp [hy])).1, fun y hy => (hf y (by simp [hy])).1, fun y hy => (hf y (by simp [hy])).1, B⟩
/-- what a row of products answers where c is the code -/
def dotR (c : Int) (x : MNet) (xs ys : List MMirror) : MMixResult :=
  if c = 0 then ⟨0, mOf (dotX (xs.getD 0 zM).xQ (vsOf xs) (vsOf ys) xs.length x).xQuarrel.xSome (xs.getD 0 zM).xQ (dotS (xs.getD 0 zM).xQ (vsOf xs) (vsOf ys) xs.length x), dotX (xs.getD 0 zM).xQ (vsOf xs) (vsOf ys) xs.length x⟩ else badM c
theorem dotR_bad {c : Int} {x : MNet} {xs ys : List MMirror} (h : c ≠ 0) : dotR c x xs ys = badM c := if_neg h
theorem dotR_ok {x : MNet} {xs ys : List MMirror} {q : Int} {n : Nat} (hq : (xs.getD 0 zM).xQ = q) (hn : xs.length = n) : dotR 0 x xs ys = ⟨0, mOf (dotX q (vsOf xs) (vsOf ys) n x).xQuarrel.xSome q (dotS q (vsOf xs) (vsOf ys) n x), dotX q (vsOf xs) (vsOf ys) n x⟩ := by
  subst hq hn
  exact if_pos rfl
theorem vsOf_out (xs : List MMirror) (t : Nat) (h : ¬ t < xs.length) : (vsOf xs).getD t [] = [] := by
  unfold vsOf
  rw [List.getD_eq_getElem?_getD, List.getElem?_eq_none (by rw [List.length_map]; omega)]
  rfl
theorem pt_nil (i j : Nat) : pt [] i j = 0 := rfl
theorem sq_of {q : Int} {xs : List MMirror} (h : ∀ j, j < xs.length → OkM q (xs.getD j zM)) (t : Nat) (ht : t < xs.length) : Sq ((vsOf xs).getD t []) := by
  rw [vsOf_getD xs t ht]
  have := mirC_zero (h t ht).1
  exact ⟨this.2.1, this.2.2.1⟩
theorem bdT_of {q : Int} {xs : List MMirror} (hq : q = 2 ∨ q = 256) (h : ∀ j, j < xs.length → OkM q (xs.getD j zM)) : BdT q (vsOf xs) := by
  intro t i j
  by_cases ht : t < xs.length
  · rw [vsOf_getD xs t ht]
    have := (mirC_zero (h t ht).1).2.2.2.1 i j
    rw [(h t ht).2] at this
    exact this
  · rw [vsOf_out xs t ht, pt_nil]
    omega
theorem ownT_of {q : Int} {xs : List MMirror} (h : ∀ j, j < xs.length → OkM q (xs.getD j zM)) : OwnT (vsOf xs) := by
  intro t p
  by_cases ht : t < xs.length
  · rw [vsOf_getD xs t ht]
    have hm := mirC_zero (h t ht).1
    by_cases hp : p < 4
    · exact hm.2.2.2.2 p hp
    · unfold pt
      have : (xs.getD t zM).xViews.getD p [] = [] := by
        rw [List.getD_eq_getElem?_getD, List.getElem?_eq_none (by rw [hm.2.1]; omega)]
        rfl
      rw [this]
      rfl
  · rw [vsOf_out xs t ht, pt_nil]
theorem rowOk_of {q : Int} {n : Nat} {xs ys : List MMirror} (hn : 1 ≤ n ∧ n ≤ 6) (lx : xs.length = n) (ly : ys.length = n) (hx : ∀ j, j < xs.length → OkM q (xs.getD j zM)) (hy : ∀ j, j < ys.length → OkM q (ys.getD j zM)) : RowOk q n xs ys := by
  have hq : q = 2 ∨ q = 256 := by
    have h0 := hx 0 (by omega)
    have := (mirC_zero h0.1).1
    rw [h0.2] at this
    exact this
  exact ⟨lx, ly, hq, hn, fun t ht => sq_of hx t (by omega), fun t ht => sq_of hy t (by omega), bdT_of hq hx, bdT_of hq hy, ownT_of hx⟩
theorem lsC_two {q : Int} {xs ys : List MMirror} (h : lsC q [xs, ys] = 0) : mirsC q xs = 0 ∧ mirsC q ys = 0 := by
  unfold lsC at h
  by_cases h1 : mirsC q xs = 0
  · rw [if_pos h1] at h
    unfold lsC at h
    by_cases h2 : mirsC q ys = 0
    · exact ⟨h1, h2⟩
    · rw [if_neg h2] at h; exact absurd h h2
  · rw [if_neg h1] at h; exact absurd h h1
theorem dotCI_zero {x : MNet} {xs ys : List MMirror} (h : dotCI x xs ys = 0) : netC x = 0 ∧ x.xQuarrel.xSome = false ∧ RowOk (xs.getD 0 zM).xQ xs.length xs ys := by
  by_cases h1 : quietC x = 0
  · by_cases h2 : dotM xs ys
    · rw [dotCI_ls h1 h2] at h
      obtain ⟨a, b⟩ := lsC_two h
      refine ⟨?_, ?_, rowOk_of ⟨h2.1, h2.2.1⟩ rfl h2.2.2 (mirsC_zero a) (mirsC_zero b)⟩
      · unfold quietC at h1
        by_cases k0 : netC x = 0
        · exact k0
        · rw [if_neg k0] at h1; exact h1
      · unfold quietC at h1
        by_cases k0 : netC x = 0
        · rw [if_pos k0] at h1
          by_cases k1 : x.xQuarrel.xSome = true
          · rw [if_pos k1] at h1; cases h1
          · simpa using k1
        · rw [if_neg k0] at h1; exact absurd h1 k0
    · rw [dotCI_many h1 h2] at h; cases h
  · rw [dotCI_net h1] at h; exact absurd h h1
end Go.Proofs.YtepobckhfodngaoGreat
