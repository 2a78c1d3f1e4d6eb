/-
  Rows of products in the model: what a party's views tell at two places together, and its own products of a part, over all terms.
-/
import Derived.Test.YtepobckhfodnganDotM0
import Derived.Test.YtepobckhfodnganMrS
import Derived.Test.YtepobckhfodnganDotB
import Derived.Test.YtepobckhfodnganDotP
import Derived.Deep.QuietTactic
import Derived.BigQuiet
namespace Go.Proofs.Ytepobckhfodngan
open Go.ChangeShapes Go.WideShapes Go.ChangeAt Go.RowKit
set_option linter.unusedVariables false

/-- the views of mirrors -/
def vsOf (xs : List MMirror) : List (List (List Int)) := xs.map (·.xViews)
theorem vsOf_getD (xs : List MMirror) (t : Nat) (h : t < xs.length) : (vsOf xs).getD t [] = (xs.getD t zM).xViews := by simp [vsOf, h]
theorem RdMirrorS.shape {w : World} {v : Value} {xs : List MMirror} {n : Nat} (h : RdMirrorS w v xs) (hn : xs.length = n) (h0 : 1 ≤ n) : ∃ g o c, v = .slice (some ⟨g, o, none⟩) n c ∧ g < w.heap.size := by
  obtain ⟨a, c, rfl, _, hr⟩ := h
  obtain ⟨g, o, rfl, hl, _⟩ := hr (by intro h; rw [h] at hn; simp at hn; omega)
  exact ⟨g, o, c, by rw [hn], hl⟩
/-- where a party's view of a term lies -/
theorem RdMirrorS.chain {w : World} {g o n c : Nat} {xs : List MMirror} (h : RdMirrorS w (.slice (some ⟨g, o, none⟩) n c) xs) (t p : Nat) (ht : t < xs.length) (hs : Sq ((vsOf xs).getD t [])) (hp : p < 4) :
    ∃ gv ov cv gr orr cr, w.cell? ⟨g, o + t * 2 + 1, none⟩ = some (.slice (some ⟨gv, ov, none⟩) 4 cv) ∧ w.cell? ⟨gv, ov + p, none⟩ = some (.slice (some ⟨gr, orr, none⟩) 4 cr) ∧ ∀ k, k < 4 → w.cell? ⟨gr, orr + k, none⟩ = some (.int .i64 (pt ((vsOf xs).getD t []) p k)) := by
  obtain ⟨a, cap, e, _, hr⟩ := h
  simp only [Value.slice.injEq] at e
  obtain ⟨rfl, rfl, rfl⟩ := e
  obtain ⟨b, off, e, _, hc⟩ := hr (by intro h; rw [h] at ht; simp at ht)
  simp only [Option.some.injEq, Addr.mk.injEq, and_true] at e
  obtain ⟨rfl, rfl⟩ := e
  obtain ⟨q, c', h0, h1, hR⟩ := hc t ht
  rw [← vsOf_getD xs t ht] at h1 hR
  generalize (vsOf xs).getD t [] = vs at *
  rw [hs.1] at h1 hR
  obtain ⟨a2, cap2, e2, _, hr2⟩ := hR
  rw [hs.1] at e2
  simp only [Value.slice.injEq, true_and] at e2
  obtain ⟨rfl, rfl⟩ := e2
  obtain ⟨gv, ov, rfl, _, hc2⟩ := hr2 (by intro h; have := hs.1; rw [h] at this; simp at this)
  obtain ⟨q3, c3, g1, hR3⟩ := hc2 p (by rw [hs.1]; exact hp)
  rw [hs.2 p hp] at g1 hR3
  obtain ⟨a4, cap4, e4, _, hr4⟩ := hR3
  rw [hs.2 p hp] at e4
  simp only [Value.slice.injEq, true_and] at e4
  obtain ⟨rfl, rfl⟩ := e4
  obtain ⟨gr, orr, rfl, _, hc4⟩ := hr4 (by intro h; have := hs.2 p hp; rw [h] at this; simp at this)
  exact ⟨gv, ov, _, gr, orr, _, h1, g1, fun k hk => hc4 k (by rw [hs.2 p hp]; exact hk)⟩
theorem pt_small {q : Int} {vss : List (List (List Int))} (hq : q = 2 ∨ q = 256) (h : BdT q vss) (t i j : Nat) : 0 ≤ pt (vss.getD t []) i j ∧ pt (vss.getD t []) i j ≤ 255 := by have := h t i j; omega
theorem crN_bd {q : Int} {xss yss : List (List (List Int))} (hq : q = 2 ∨ q = 256) (hx : BdT q xss) (hy : BdT q yss) (p i j : Nat) : ∀ t : Nat, 0 ≤ crN xss yss p i j t ∧ crN xss yss p i j t ≤ 130050 * (t : Int)
  | 0 => by simp [crN]
  | t + 1 => by
    have h := crN_bd hq hx hy p i j t
    have := cross_small (pt_small hq hx t p i) (pt_small hq hy t p j) (pt_small hq hx t p j) (pt_small hq hy t p i)
    rw [crN]
    omega
theorem sqN_bd {q : Int} {xss yss : List (List (List Int))} (hq : q = 2 ∨ q = 256) (hx : BdT q xss) (hy : BdT q yss) (p k : Nat) : ∀ t : Nat, 0 ≤ sqN xss yss p k t ∧ sqN xss yss p k t ≤ 65025 * (t : Int)
  | 0 => by simp [sqN]
  | t + 1 => by
    have h := sqN_bd hq hx hy p k t
    have := cross_small (pt_small hq hx t p k) (pt_small hq hy t p k) (pt_small hq hx t p k) (pt_small hq hy t p k)
    rw [sqN]
    omega
end Go.Proofs.Ytepobckhfodngan
