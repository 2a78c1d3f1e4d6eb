/-
  All that is asked of a row of products, in the model.
-/
import Derived.Test.YtepobckhfodngaoGreatSpE
import Derived.Deep.QuietTactic
import Derived.BigQuiet
namespace Go.Proofs.YtepobckhfodngaoGreat
open Go.ChangeShapes Go.WideShapes Go.ChangeAt Go.RowKit
set_option linter.unusedVariables false

def sameQ (xs ys : List MMirror) : Prop := ∀ j, j < xs.length → (xs.getD j zM).xQ = (xs.getD 0 zM).xQ ∧ (ys.getD j zM).xQ = (xs.getD 0 zM).xQ
instance (xs ys : List MMirror) : Decidable (sameQ xs ys) := by unfold sameQ; infer_instance
def dotCS (x : MNet) (xs ys : List MMirror) : Int := if quietC x = 0 then (if dotM xs ys then (if fltC xs = 0 then (if fltC ys = 0 then (if sameQ xs ys then 0 else 1) else fltC ys) else fltC xs) else 2) else quietC x
theorem dotCS_net {x : MNet} {xs ys : List MMirror} (h : quietC x ≠ 0) : dotCS x xs ys = quietC x := if_neg h
theorem dotCS_many {x : MNet} {xs ys : List MMirror} (h : quietC x = 0) (k : ¬ dotM xs ys) : dotCS x xs ys = 2 := by unfold dotCS; rw [if_pos h, if_neg k]
theorem dotCS_x {x : MNet} {xs ys : List MMirror} (h : quietC x = 0) (k : dotM xs ys) (l : fltC xs ≠ 0) : dotCS x xs ys = fltC xs := by unfold dotCS; rw [if_pos h, if_pos k, if_neg l]
theorem dotCS_y {x : MNet} {xs ys : List MMirror} (h : quietC x = 0) (k : dotM xs ys) (l : fltC xs = 0) (m : fltC ys ≠ 0) : dotCS x xs ys = fltC ys := by unfold dotCS; rw [if_pos h, if_pos k, if_pos l, if_neg m]
theorem dotCS_q {x : MNet} {xs ys : List MMirror} (h : quietC x = 0) (k : dotM xs ys) (l : fltC xs = 0) (m : fltC ys = 0) (n : ¬ sameQ xs ys) : dotCS x xs ys = 1 := by unfold dotCS; rw [if_pos h, if_pos k, if_pos l, if_pos m, if_neg n]
theorem dotCS_ok {x : MNet} {xs ys : List MMirror} (h : quietC x = 0) (k : dotM xs ys) (l : fltC xs = 0) (m : fltC ys = 0) (n : sameQ xs ys) : dotCS x xs ys = 0 := by unfold dotCS; rw [if_pos h, if_pos k, if_pos l, if_pos m, if_pos n]
theorem RdMirrorS.qAt {w : World} {g o n c : Nat} {xs : List MMirror} (h : RdMirrorS w (.slice (some ⟨g, o, none⟩) n c) xs) (t : Nat) (ht : t < xs.length) : w.cell? ⟨g, o + t * 2, none⟩ = some (.int .i64 (xs.getD t zM).xQ) := by
  obtain ⟨a, cap, ev, _, hr⟩ := h
  simp only [Value.slice.injEq] at ev
  obtain ⟨rfl, _, rfl⟩ := ev
  obtain ⟨b, off, ev, _, hc⟩ := hr (by intro h; rw [h] at ht; simp at ht)
  simp only [Option.some.injEq, Addr.mk.injEq, and_true] at ev
  obtain ⟨rfl, rfl⟩ := ev
  obtain ⟨_, _, h1, _⟩ := hc t ht
  exact h1
end Go.Proofs.YtepobckhfodngaoGreat
