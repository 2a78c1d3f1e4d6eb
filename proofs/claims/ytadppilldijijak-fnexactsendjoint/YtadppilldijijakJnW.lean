/-
  Contracts of chapter 4: words that are taken: in the program and in its model.
-/
import Derived.Test.YtadppilldijijakJnK
import Derived.Test.YtadppilldijijakWhole
namespace Go.Proofs.Ytadppilldijijak
open Go.ChangeShapes Go.WideShapes Go.ChangeAt Go.RowKit
set_option linter.unusedVariables false

def zeroNet : MNet := ⟨[], [], 0, [], ⟨0, 0, 0, false⟩, ⟨false, 0, 0, 0, 0, 0, 0, 0⟩⟩
def badN (c : Int) : MNetResult := ⟨c, 0, zeroNet⟩
/-- what is answered with a code -/
theorem OwNetResult.bad (W : World) (c : Int) : OwNetResult W (.agg #[.int .i64 c, .int .i64 0, .slice none 0 0, .slice none 0 0, .int .i64 0, .slice none 0 0, .int .i64 0, .int .i64 0, .int .i64 0, .bool false, .bool false, .int .i64 0, .int .i64 0, .int .i64 0, .int .i64 0, .int .i64 0, .int .i64 0, .int .i64 0]) (badN c) [] [] [] :=
  ⟨none, 0, none, 0, none, 0, rfl, Mat.nil _, Ints.nil _, Mat.nil _, (fun _ h => by cases h), (fun _ h => by cases h), (fun _ h => by cases h)⟩
def OutNetR (w w' : World) (r : MNetResult) (e : Ending) : Prop := ∃ u b0 b1 b2, e = .returned u ∧ OwNetResult w' u r b0 b1 b2 ∧ (∀ y ∈ b0, w.heap.size ≤ y) ∧ (∀ y ∈ b1, w.heap.size ≤ y) ∧ (∀ y ∈ b2, w.heap.size ≤ y) ∧ Below w.heap.size w w'
theorem OutNetR.bad {w W : World} (c : Int) (h : Below w.heap.size w W) : OutNetR w W (badN c) (.returned (.agg #[.int .i64 c, .int .i64 0, .slice none 0 0, .slice none 0 0, .int .i64 0, .slice none 0 0, .int .i64 0, .int .i64 0, .int .i64 0, .bool false, .bool false, .int .i64 0, .int .i64 0, .int .i64 0, .int .i64 0, .int .i64 0, .int .i64 0, .int .i64 0])) :=
  ⟨_, [], [], [], rfl, OwNetResult.bad W c, by simp, by simp, by simp, h⟩
theorem spec_l4Bad (c : Int) (w : World) : Calls Try.prog 35 #[.int .i64 c] w fun e w' => e = .returned (.agg #[.int .i64 c, .int .i64 0, .slice none 0 0, .slice none 0 0, .int .i64 0, .slice none 0 0, .int .i64 0, .int .i64 0, .int .i64 0, .bool false, .bool false, .int .i64 0, .int .i64 0, .int .i64 0, .int .i64 0, .int .i64 0, .int .i64 0, .int .i64 0]) ∧ Below w.heap.size w w' := by
  have Y0 := Blk.new w 39 #[.int .i64 0, .int .i64 0, .slice none 0 0, .slice none 0 0, .int .i64 0, .slice none 0 0, .int .i64 0, .int .i64 0, .int .i64 0, .bool false, .bool false, .int .i64 0, .int .i64 0, .int .i64 0, .int .i64 0, .int .i64 0, .int .i64 0, .int .i64 0]
  go_enter Try.func35, Try.ntmps35
  go_wp2_with (refine wpList_store_blk rfl 39 _ _ rfl w.heap.size #[.int .i64 c, .int .i64 0, .slice none 0 0, .slice none 0 0, .int .i64 0, .slice none 0 0, .int .i64 0, .int .i64 0, .int .i64 0, .bool false, .bool false, .int .i64 0, .int .i64 0, .int .i64 0, .int .i64 0, .int .i64 0, .int .i64 0, .int .i64 0] rfl rfl Y0 rfl (by kernel_rfl) (by kernel_rfl) ?_; intro w1 Y1 O1)
  have B1 : Below w.heap.size w w1 := ((Below.refl _ _).alloc (Nat.le_refl _) _).trans (O1.toBelow (by simp) (by simp))
  exact bodyPost_ret (v := .agg #[.int .i64 c, .int .i64 0, .slice none 0 0, .slice none 0 0, .int .i64 0, .slice none 0 0, .int .i64 0, .int .i64 0, .int .i64 0, .bool false, .bool false, .int .i64 0, .int .i64 0, .int .i64 0, .int .i64 0, .int .i64 0, .int .i64 0, .int .i64 0]) (results_blk Try.results35 rfl Y1 Try.underlying39 rfl (by kernel_rfl)) rfl ⟨rfl, B1⟩
def used (x : MNet) (lane : Int) : Int := x.xUsed.getD lane.toNat 0
/-- a net of which one more word was taken -/
def tookN (x : MNet) (lane : Int) : MNet := { x with xUsed := x.xUsed.set lane.toNat (used x lane + 1) }
def takeR (x : MNet) (lane q : Int) : MNetResult := if netC x = 0 then (if (0 ≤ lane ∧ lane ≤ 3) ∧ (q = 2 ∨ q = 256) then ⟨0, word x.xTape lane (used x lane) % q, tookN x lane⟩ else badN 3) else badN (netC x)
theorem takeR_fault {x : MNet} (lane q : Int) (h : netC x ≠ 0) : takeR x lane q = badN (netC x) := if_neg h
theorem takeR_out {x : MNet} {lane q : Int} (h : netC x = 0) (k : ¬ ((0 ≤ lane ∧ lane ≤ 3) ∧ (q = 2 ∨ q = 256))) : takeR x lane q = badN 3 := by unfold takeR; rw [if_pos h, if_neg k]
theorem takeR_in {x : MNet} {lane q : Int} (h : netC x = 0) (k : (0 ≤ lane ∧ lane ≤ 3) ∧ (q = 2 ∨ q = 256)) : takeR x lane q = ⟨0, word x.xTape lane (used x lane) % q, tookN x lane⟩ := by unfold takeR; rw [if_pos h, if_pos k]
theorem used_ok {x : MNet} (h : netC x = 0) (l : Nat) (hl : l < 4) : 0 ≤ used x l ∧ used x l ≤ 99999 := by
  obtain ⟨_, hl4, hb, _⟩ := netC_zero h
  exact (okN_iff _).1 ((listsB_iff x).1 hb).1 l (by rw [hl4.1]; exact hl)
theorem word_ok {xss : List (List Int)} (h : tapeC xss = 0) (l m : Int) : 0 ≤ word xss l m ∧ word xss l m ≤ 255 := (rowC_zero (tapeC_row h _)).2 _
theorem badN_cnt (c : Int) : cntNetResult (badN c) ≤ 268435456 := by show 0 + 0 + 0 ≤ _; omega
theorem takeR_cnt (x : MNet) (lane q : Int) (h : totNet x ≤ 1048576) : cntNetResult (takeR x lane q) ≤ 268435456 := by
  have h1 := cntNet_le x
  unfold takeR
  split
  · split
    · have h2 : cntNet (tookN x lane) = cntNet x := by unfold cntNet tookN; simp
      show cntNet (tookN x lane) ≤ _
      omega
    · exact badN_cnt _
  · exact badN_cnt _
end Go.Proofs.Ytadppilldijijak
