/-
  Contracts of chapter 6: InputMirror, in the program and in its model.
-/
import Derived.Test.YtbmemdgeohnpnalGreatInS
import Derived.Test.YtbmemdgeohnpnalGreatOwn6
import Derived.Test.YtbmemdgeohnpnalGreatCopyT
namespace Go.Proofs.YtbmemdgeohnpnalGreat
open Go.ChangeShapes Go.WideShapes Go.ChangeAt Go.RowKit
set_option linter.unusedVariables false
/-- the net that an input leaves -/
def gaveN (x : MNet) (o : Nat) (v : Int) : MNet := { x with xUsed := inU x.xUsed o 4, xSent := inSt x o 4, xHeard := inHd x o (inL x o v 4) 4 }
def badM (c : Int) : MMixResult := ⟨c, ⟨0, []⟩, ⟨[], [], 0, [], ⟨0, 0, 0, false⟩, ⟨false, 0, 0, 0, 0, 0, 0, 0⟩⟩⟩
def inputR (x : MNet) (o v : Int) : MMixResult := if ownC x o = 0 then (if 0 ≤ v ∧ v < 256 then ⟨0, ⟨256, mirRows (inParts x o.toNat v)⟩, gaveN x o.toNat v⟩ else badM 3) else badM (ownC x o)
theorem inputR_fault {x : MNet} {o v : Int} (h : ownC x o ≠ 0) : inputR x o v = badM (ownC x o) := if_neg h
theorem inputR_out {x : MNet} {o v : Int} (h : ownC x o = 0) (k : ¬ (0 ≤ v ∧ v < 256)) : inputR x o v = badM 3 := by unfold inputR; rw [if_pos h, if_neg k]
theorem inputR_in {x : MNet} {o v : Int} (h : ownC x o = 0) (k : 0 ≤ v ∧ v < 256) : inputR x o v = ⟨0, ⟨256, mirRows (inParts x o.toNat v)⟩, gaveN x o.toNat v⟩ := by unfold inputR; rw [if_pos h, if_pos k]
theorem ownC_zero {x : MNet} {o : Int} (h : ownC x o = 0) : netC x = 0 ∧ (0 ≤ o ∧ o ≤ 3) := by
  by_cases k : quietC x = 0
  · by_cases k1 : 0 ≤ o ∧ o ≤ 3
    · refine ⟨?_, k1⟩
      unfold quietC at k
      by_cases k0 : netC x = 0
      · exact k0
      · rw [if_neg k0] at k; exact k
    · rw [ownC_out k k1] at h; cases h
  · rw [ownC_fault k] at h; exact absurd h k
def OutMix (w w' : World) (r : MMixResult) (e : Ending) : Prop := ∃ u b0 b1 b2 b3, e = .returned u ∧ OwMixResult w' u r b0 b1 b2 b3 ∧ (∀ y ∈ b0, w.heap.size ≤ y) ∧ (∀ y ∈ b1, w.heap.size ≤ y) ∧ (∀ y ∈ b2, w.heap.size ≤ y) ∧ (∀ y ∈ b3, w.heap.size ≤ y) ∧ Below w.heap.size w w'
theorem OutMix.bad {w W : World} (c : Int) (h : Below w.heap.size w W) : OutMix w W (badM c) (.returned (.agg #[.int .i64 c, .int .i64 0, .slice none 0 0, .slice none 0 0, .slice none 0 0, .int .i64 0, .slice none 0 0, .int .i64 0, .int .i64 0, .int .i64 0, .bool false, .bool false, .int .i64 0, .int .i64 0, .int .i64 0, .int .i64 0, .int .i64 0, .int .i64 0, .int .i64 0])) :=
  ⟨_, [], [], [], [], rfl, ⟨none, 0, none, 0, none, 0, none, 0, rfl, Mat.nil _, Mat.nil _, Ints.nil _, Mat.nil _, (fun g hg => by cases hg), (fun g hg => by cases hg), (fun g hg => by cases hg), (fun g hg => by cases hg), (fun g hg => by cases hg), (fun g hg => by cases hg)⟩, by simp, by simp, by simp, by simp, h⟩
set_option maxHeartbeats 1000000 in
theorem spec_l5Bad (c : Int) (w : World) : Calls Tryz.prog 47 #[.int .i64 c] w fun e w' => e = .returned (.agg #[.int .i64 c, .int .i64 0, .slice none 0 0, .slice none 0 0, .slice none 0 0, .int .i64 0, .slice none 0 0, .int .i64 0, .int .i64 0, .int .i64 0, .bool false, .bool false, .int .i64 0, .int .i64 0, .int .i64 0, .int .i64 0, .int .i64 0, .int .i64 0, .int .i64 0]) ∧ Below w.heap.size w w' := by
  have Y0 := Blk.new w 43 #[.int .i64 0, .int .i64 0, .slice none 0 0, .slice none 0 0, .slice none 0 0, .int .i64 0, .slice none 0 0, .int .i64 0, .int .i64 0, .int .i64 0, .bool false, .bool false, .int .i64 0, .int .i64 0, .int .i64 0, .int .i64 0, .int .i64 0, .int .i64 0, .int .i64 0]
  have B0 : Below w.heap.size w (w.alloc (.cells #[.int .i64 0, .int .i64 0, .slice none 0 0, .slice none 0 0, .slice none 0 0, .int .i64 0, .slice none 0 0, .int .i64 0, .int .i64 0, .int .i64 0, .bool false, .bool false, .int .i64 0, .int .i64 0, .int .i64 0, .int .i64 0, .int .i64 0, .int .i64 0, .int .i64 0] 43)) := (by repeat (first | exact Below.refl _ _ | refine Below.drew ?_ | refine below_drewN ?_ _ | refine Below.setCell ?_ (by first | omega | (simp; done) | (simp; omega)) _ | refine Below.alloc ?_ (by first | omega | (simp; done) | (simp; omega)) _))
  go_enter Tryz.func47, Tryz.ntmps47
  go_wp2_with (refine wpList_store_blk rfl 43 _ _ rfl w.heap.size (#[.int .i64 c, .int .i64 0, .slice none 0 0, .slice none 0 0, .slice none 0 0, .int .i64 0, .slice none 0 0, .int .i64 0, .int .i64 0, .int .i64 0, .bool false, .bool false, .int .i64 0, .int .i64 0, .int .i64 0, .int .i64 0, .int .i64 0, .int .i64 0, .int .i64 0]) rfl rfl Y0 rfl (by kernel_rfl) (by kernel_rfl) ?_; intro w1 Y1 O1)
  have B1 : Below w.heap.size w w1 := B0.trans (O1.toBelow B0.size (by simp))
  exact bodyPost_ret (v := .agg #[.int .i64 c, .int .i64 0, .slice none 0 0, .slice none 0 0, .slice none 0 0, .int .i64 0, .slice none 0 0, .int .i64 0, .int .i64 0, .int .i64 0, .bool false, .bool false, .int .i64 0, .int .i64 0, .int .i64 0, .int .i64 0, .int .i64 0, .int .i64 0, .int .i64 0]) (results_blk Tryz.results47 rfl Y1 Tryz.underlying43 rfl (by kernel_rfl)) rfl ⟨rfl, B1⟩
end Go.Proofs.YtbmemdgeohnpnalGreat
