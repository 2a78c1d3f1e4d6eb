/-
  All that is asked of a row of products, in the program.
-/
import Derived.Test.YtepobckhfodngaoGreatDotU
import Derived.Test.YtepobckhfodngaoGreatJnZ
import Derived.Test.YtepobckhfodngaoGreatSpA
namespace Go.Proofs.YtepobckhfodngaoGreat
open Go.ChangeShapes Go.WideShapes Go.ChangeAt Go.RowKit
set_option linter.unusedVariables false

def dotM (xs ys : List MMirror) : Prop := 1 ≤ xs.length ∧ xs.length ≤ 6 ∧ ys.length = xs.length
instance (xs ys : List MMirror) : Decidable (dotM xs ys) := by unfold dotM; infer_instance
def dotCI (x : MNet) (xs ys : List MMirror) : Int := if quietC x = 0 then (if dotM xs ys then lsC (xs.getD 0 zM).xQ [xs, ys] else 2) else quietC x
theorem dotCI_net {x : MNet} {xs ys : List MMirror} (h : quietC x ≠ 0) : dotCI x xs ys = quietC x := if_neg h
theorem dotCI_many {x : MNet} {xs ys : List MMirror} (h : quietC x = 0) (k : ¬ dotM xs ys) : dotCI x xs ys = 2 := by unfold dotCI; rw [if_pos h, if_neg k]
theorem dotCI_ls {x : MNet} {xs ys : List MMirror} (h : quietC x = 0) (k : dotM xs ys) : dotCI x xs ys = lsC (xs.getD 0 zM).xQ [xs, ys] := by unfold dotCI; rw [if_pos h, if_pos k]
theorem RdMirrorS.q0 {w : World} {g o n c : Nat} {xs : List MMirror} (h : RdMirrorS w (.slice (some ⟨g, o, none⟩) n c) xs) (h0 : 1 ≤ xs.length) : w.cell? ⟨g, o, none⟩ = some (.int .i64 (xs.getD 0 zM).xQ) := by
  obtain ⟨a, cap, ev, _, hr⟩ := h
  simp only [Value.slice.injEq] at ev
  obtain ⟨rfl, _, rfl⟩ := ev
  obtain ⟨b, off, ev, _, hc⟩ := hr (by intro h; rw [h] at h0; simp at h0)
  simp only [Option.some.injEq, Addr.mk.injEq, and_true] at ev
  obtain ⟨rfl, rfl⟩ := ev
  obtain ⟨_, _, h1, _⟩ := hc 0 (by omega)
  simpa using h1
end Go.Proofs.YtepobckhfodngaoGreat
