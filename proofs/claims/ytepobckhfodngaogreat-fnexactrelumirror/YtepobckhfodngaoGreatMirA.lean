/-
  Contracts of chapter 3's model: who knows a part; mirrors that are alike; what they are worth.
-/
import Derived.Test.YtepobckhfodngaoGreatMirS
import Derived.Test.YtepobckhfodngaoGreatTapeW
import Derived.Test.YtepobckhfodngaoGreatBut
namespace Go.Proofs.YtepobckhfodngaoGreat
open Go.ChangeShapes Go.WideShapes Go.ChangeAt Go.RowKit
set_option linter.unusedVariables false

/-- part k of party i's view -/
def pt (xss : List (List Int)) (i k : Nat) : Int := (xss.getD i []).getD k 0
def knower (part : Nat) (but : Int) : Nat := if part ≠ 0 ∧ but ≠ 0 then 0 else if part ≠ 1 ∧ but ≠ 1 then 1 else 2
def alikeB (xss : List (List Int)) (but : Int) : Bool := (List.range 4).all fun (k : Nat) => (List.range 4).all fun (i : Nat) => decide (i = k ∨ (i : Int) = but ∨ pt xss i k = pt xss (knower k but) k)
theorem alikeB_iff (xss : List (List Int)) (but : Int) : alikeB xss but = true ↔ ∀ k : Nat, k < 4 → ∀ i : Nat, i < 4 → (i = k ∨ (i : Int) = but ∨ pt xss i k = pt xss (knower k but) k) := by
  unfold alikeB
  rw [List.all_eq_true]
  constructor
  · intro h k hk i hi
    have := List.all_eq_true.1 (h k (List.mem_range.2 hk)) i (List.mem_range.2 hi)
    simpa using this
  · intro h k hk
    rw [List.all_eq_true]
    intro i hi
    have := h k (List.mem_range.1 hk) i (List.mem_range.1 hi)
    simpa using this
theorem knower_le (part : Nat) (but : Int) : knower part but ≤ 2 := by unfold knower; split; omega; split <;> omega
theorem knower_ne (part : Nat) (but : Int) : knower part but ≠ part ∧ (knower part but : Int) ≠ but := by
  unfold knower
  split
  · omega
  · split
    · omega
    · omega
def sumK (xss : List (List Int)) (but : Int) : Nat → Int
  | 0 => 0
  | k + 1 => sumK xss but k + pt xss (knower k but) k
def valueR (q : Int) (xss : List (List Int)) (but : Int) : MIntResult := if mirC q xss = 0 then (if isBut but = true then (if alikeB xss but = true then ⟨0, sumK xss but 4 % q⟩ else ⟨6, 0⟩) else ⟨3, 0⟩) else ⟨mirC q xss, 0⟩
def isAlikeR (q : Int) (xss : List (List Int)) (but : Int) : Bool := decide (mirC q xss = 0) && isBut but && alikeB xss but
/-- one part of a mirror, as it lies in memory -/
theorem ReadsM.part {w : World} {p : Option Addr} {c : Nat} {xss : List (List Int)} (h : ReadsM w (.slice p xss.length c) xss) (h4 : xss.length = 4) (hr : ∀ i, i < 4 → (xss.getD i []).length = 4) (i k : Nat) (hi : i < 4) (hk : k < 4) :
    ∃ gb off g2 o2 d, p = some ⟨gb, off, none⟩ ∧ w.cell? ⟨gb, off + i, none⟩ = some (.slice (some ⟨g2, o2, none⟩) 4 d) ∧ w.cell? ⟨g2, o2 + k, none⟩ = some (.int .i64 (pt xss i k)) := by
  obtain ⟨gb, off, pq, d, rfl, _, c1, r1⟩ := h.lane i (by omega)
  obtain ⟨g2, o2, rfl, _, c2⟩ := r1.one k (by rw [hr i hi]; exact hk)
  rw [hr i hi] at c1
  exact ⟨gb, off, g2, o2, d, rfl, c1, c2⟩
end Go.Proofs.YtepobckhfodngaoGreat
