/-
  Contracts of chapter 2: what a party is told of a tape, in the program.
-/
import Derived.Test.YtepobckhfodngaoGreatTapeW
import Derived.Test.YtepobckhfodngaoGreatCopy
import Derived.Test.YtepobckhfodngaoGreatApp
namespace Go.Proofs.YtepobckhfodngaoGreat
open Go.ChangeShapes Go.WideShapes Go.ChangeAt Go.RowKit
set_option linter.unusedVariables false

def tapeForR (xss : List (List Int)) (party : Int) : MTapeResult := if tapeC xss = 0 then (if 0 ≤ party ∧ party ≤ 3 then ⟨0, xss.set party.toNat []⟩ else ⟨3, []⟩) else ⟨tapeC xss, []⟩
theorem tapeForR_fault {xss : List (List Int)} (party : Int) (h : tapeC xss ≠ 0) : tapeForR xss party = ⟨tapeC xss, []⟩ := if_neg h
theorem tapeForR_out {xss : List (List Int)} {party : Int} (h : tapeC xss = 0) (k : ¬ (0 ≤ party ∧ party ≤ 3)) : tapeForR xss party = ⟨3, []⟩ := by unfold tapeForR; rw [if_pos h, if_neg k]
theorem tapeForR_in {xss : List (List Int)} {party : Int} (h : tapeC xss = 0) (k : 0 ≤ party ∧ party ≤ 3) : tapeForR xss party = ⟨0, xss.set party.toNat []⟩ := by unfold tapeForR; rw [if_pos h, if_pos k]
theorem sl_set : ∀ (xss : List (List Int)) (j : Nat), sl (xss.set j []) ≤ sl xss
  | [], _ => by simp
  | x :: r, 0 => by simp [sl]
  | x :: r, j + 1 => by have := sl_set r j; simp only [List.set_cons_succ, sl]; omega
theorem tapeForR_cnt (xss : List (List Int)) (party : Int) (h : totTape xss ≤ 1048576) : cntTapeResult (tapeForR xss party) ≤ 268435456 := by
  unfold totTape at h
  have h1 := sl_le_tot xss
  have h2 := sl_set xss party.toNat
  unfold tapeForR
  split
  · split
    · show sl (xss.set party.toNat []) ≤ _; omega
    · show sl [] ≤ _; simp [sl]
  · show sl [] ≤ _; simp [sl]
/-- a slot of the outer list is filled -/
theorem Mat.fill {w : World} {g k n : Nat} {vs : List Value} {xss : List (List Int)} {bi : List (List Nat)} {u : Value} {ys : List Int} {b : List Nat}
    (ho : Own w 25 1 (.slice (some ⟨g, 0, none⟩) n n) n (vs ++ List.replicate (n - k) (.slice none 0 0)) [g]) (hr : Rows w vs xss bi) (hi : Ints w u ys b) (hk : k < n) (hv : vs.length = k)
    (hnd : (g :: bi.flatten).Nodup) (hd : Dj bi.flatten b) (hgb : g ∉ b) (hbn : b.Nodup) :
    Own (w.setCell ⟨g, k, none⟩ u) 25 1 (.slice (some ⟨g, 0, none⟩) n n) n ((vs ++ [u]) ++ List.replicate (n - (k + 1)) (.slice none 0 0)) [g] ∧ Rows (w.setCell ⟨g, k, none⟩ u) (vs ++ [u]) (xss ++ [ys]) (bi ++ [b]) ∧ (g :: (bi ++ [b]).flatten).Nodup := by
  have hg : g ∉ bi.flatten := (List.nodup_cons.1 hnd).1
  refine ⟨?_, ?_, ?_⟩
  · have := Own.set ho k u
    rwa [nils_set vs n k _ hk hv] at this
  · exact Rows.snoc (hr.frame fun x hx => Below.heap_setCell _ _ _ _ (fun e => hg (by have e' : x = g := e; rw [← e']; exact hx))) (Ints.setOther hi _ _ hgb)
  · simp only [List.flatten_append, List.flatten_cons, List.flatten_nil, List.append_nil]
    rw [← List.cons_append]
    refine List.nodup_append.2 ⟨hnd, hbn, ?_⟩
    intro x hx y hy
    rcases List.mem_cons.1 hx with rfl | hx
    · intro e; exact hgb (e ▸ hy)
    · intro e; exact hd x hx (e ▸ hy)
end Go.Proofs.YtepobckhfodngaoGreat
