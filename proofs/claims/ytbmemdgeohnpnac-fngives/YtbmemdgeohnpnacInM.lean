/-
  Contracts of chapter 6: InputMirror, in the program and in its model.
-/
import Derived.Test.YtbmemdgeohnpnacInS
import Derived.Test.YtbmemdgeohnpnacOwn6
import Derived.Test.YtbmemdgeohnpnacCopyT
namespace Go.Proofs.Ytbmemdgeohnpnac
open Go.ChangeShapes Go.WideShapes Go.ChangeAt Go.RowKit
set_option linter.unusedVariables false
/-- the net that an input leaves -/
def gaveN (x : MNet) (o : Nat) (v : Int) : MNet := { x with xUsed := inU x.xUsed o 4, xSent := inSt x o 4, xHeard := inHd x o (inL x o v 4) 4 }
def badM (c : Int) : MMixResult := ⟨c, ⟨0, []⟩, ⟨[], [], 0, [], ⟨0, 0, 0, false⟩, ⟨false, 0, 0, 0, 0, 0, 0, 0⟩⟩⟩
def inputR (x : MNet) (o v : Int) : MMixResult := if ownC x o = 0 then (if 0 ≤ v ∧ v < 256 then ⟨0, ⟨256, mirRows (inParts x o.toNat v)⟩, gaveN x o.toNat v⟩ else badM 3) else badM (ownC x o)
theorem inputR_fault {x : MNet} {o v : Int} (h : ownC x o ≠ 0) : inputR x o v = badM (ownC x o) := if_neg h
theorem inputR_out {x : MNet} {o v : Int} (h : ownC x o = 0) (k : ¬ (0 ≤ v ∧ v < 256)) : inputR x o v = badM 3 := by unfold inputR; rw [if_pos h, if_neg k]
theorem inputR_in {x : MNet} {o v : Int} (h : ownC x o = 0) (k : 0 ≤ v ∧ v < 256) : inputR x o v = ⟨0, ⟨256, mirRows (inParts x o.toNat v)⟩, gaveN x o.toNat v⟩ := by unfold inputR; rw [if_pos h, if_pos k]
theorem ownC_zero {x : MNet} {o : Int} (h : ownC x o = 0) : netC x = 0 ∧ (0 ≤ o ∧ o ≤ 3) := by
  by_cases k : quietC x = 0
  · by_cases k1 : 0 ≤ o ∧ o ≤ 3
    · refine ⟨?_, k1⟩
      unfold quietC at k
      by_cases k0 : netC x = 0
      · exact k0
      · rw [if_neg k0] at k; exact k
    · rw [ownC_out k k1] at h; cases h
  · rw [ownC_fault k] at h; exact absurd h k
def OutMix (w w' : World) (r : MMixResult) (e : Ending) : Prop := ∃ u b0 b1 b2 b3, e = .returned u ∧ OwMixResult w' u r b0 b1 b2 b3 ∧ (∀ y ∈ b0, w.heap.size ≤ y) ∧ (∀ y ∈ b1, w.heap.size ≤ y) ∧ (∀ y ∈ b2, w.heap.size ≤ y) ∧ (∀ y ∈ b3, w.heap.size ≤ y) ∧ Below w.heap.size w w'
theorem OutMix.bad {w W : World} (c : Int) (h : Below w.heap.size w W) : OutMix w W (badM c) (.returned (.agg #[.int .i64 c, .int .i64 0, .slice none 0 0, .slice none 0 0, .slice none 0 0, .int .i64 0, .slice none 0 0, .int .i64 0, .int .i64 0, .int .i64 0, .bool false, .bool false, .int .i64 0, .int .i64 0, .int .i64 0, .int .i64 0, .int .i64 0, .int .i64 0, .int .i64 0])) :=
  ⟨_, [], [], [], [], rfl, ⟨none, 0, none, 0, none, 0, none, 0, rfl, Mat.nil _, Mat.nil _, Ints.nil _, Mat.nil _, (fun g hg => by cases hg), (fun g hg => by cases hg), (fun g hg => by cases hg), (fun g hg => by cases hg), (fun g hg => by cases hg), (fun g hg => by cases hg)⟩, by simp, by simp, by simp, by simp, h⟩
set_option maxHeartbeats 1000000 in
theorem spec_l5Bad (c : Int) (w : World) : Calls Try.prog 42 #[.int .i64 c] w fun e w' => e = .returned (.agg #[.int .i64 c, .int .i64 0, .slice none 0 0, .slice none 0 0, .slice none 0 0, .int .i64 0, .slice none 0 0, .int .i64 0, .int .i64 0, .int .i64 0, .bool false, .bool false, .int .i64 0, .int .i64 0, .int .i64 0, .int .i64 0, .int .i64 0, .int .i64 0, .int .i64 0]) ∧ Below w.heap.size w w' := by
  have Y0 := Blk.new w 39 #[.int .i64 0, .int .i64 0, .slice none 0 0, .slice none 0 0, .slice none 0 0, .int .i64 0, .slice none 0 0, .int .i64 0, .int .i64 0, .int .i64 0, .bool false, .bool false, .int .i64 0, .int .i64 0, .int .i64 0, .int .i64 0, .int .i64 0, .int .i64 0, .int .i64 0]
  have B0 : Below w.heap.size w (w.alloc (.cells #[.int .i64 0, .int .i64 0, .slice none 0 0, .slice none 0 0, .slice none 0 0, .int .i64 0, .slice none 0 0, .int .i64 0, .int .i64 0, .int .i64 0, .bool false, .bool false, .int .i64 0, .int .i64 0, .int .i64 0, .int .i64 0, .int .i64 0, .int .i64 0, .int .i64 0] 39)) := (by repeat (first | exact Below.refl _ _ | refine Below.drew ?_ | refine below_drewN ?_ _ | refine Below.setCell ?_ (by first | omega | (simp; done) | (simp; omega)) _ | refine Below.alloc ?_ (by first | omega | (simp; done) | (simp; omega)) _))
  go_enter Try.func42, Try.ntmps42
  go_wp2_with (refine wpList_store_blk rfl 39 _ _ rfl w.heap.size (#[.int .i64 c, .int .i64 0, .slice none 0 0, .slice none 0 0, .slice none 0 0, .int .i64 0, .slice none 0 0, .int .i64 0, .int .i64 0, .int .i64 0, .bool false, .bool false, .int .i64 0, .int .i64 0, .int .i64 0, .int .i64 0, .int .i64 0, .int .i64 0, .int .i64 0]) rfl rfl Y0 rfl (by kernel_rfl) (by kernel_rfl) ?_; intro w1 Y1 O1)
  have B1 : Below w.heap.size w w1 := B0.trans (O1.toBelow B0.size (by simp))
  exact bodyPost_ret (v := .agg #[.int .i64 c, .int .i64 0, .slice none 0 0, .slice none 0 0, .slice none 0 0, .int .i64 0, .slice none 0 0, .int .i64 0, .int .i64 0, .int .i64 0, .bool false, .bool false, .int .i64 0, .int .i64 0, .int .i64 0, .int .i64 0, .int .i64 0, .int .i64 0, .int .i64 0]) (results_blk Try.results42 rfl Y1 Try.underlying39 rfl (by kernel_rfl)) rfl ⟨rfl, B1⟩
set_option maxHeartbeats 8000000 in
set_option maxRecDepth 100000 in
theorem impl_InputMirror (vv : Value) (x : MNet) (oo v : Int) (w : World) (hv : RdNet w vv x) (hx : Fit x) :
    Calls Try.prog 8 #[vv, .int .i64 oo, .int .i64 v] w fun e w' => OutMix w w' (inputR x oo v) e := by
  obtain ⟨p0, c0, p1, c1, p2, c2, rfl, h0, h1, h2⟩ := hv
  have B0 : Below w.heap.size w ((w.alloc (.cells #[.slice p0 x.xTape.length c0, .slice p1 x.xUsed.length c1, .int .i64 x.xSent, .slice p2 x.xHeard.length c2, .int .i64 x.xCheat.xWho, .int .i64 x.xCheat.xAt, .int .i64 x.xCheat.xBy, .bool x.xCheat.xCry, .bool x.xQuarrel.xSome, .int .i64 x.xQuarrel.xFrom, .int .i64 x.xQuarrel.xCheck, .int .i64 x.xQuarrel.xTo, .int .i64 x.xQuarrel.xTold, .int .i64 x.xQuarrel.xHeard, .int .i64 x.xQuarrel.xOther, .int .i64 x.xQuarrel.xVowed] 33)).alloc (.cells #[.int .i64 0, .int .i64 0, .slice none 0 0, .slice none 0 0, .slice none 0 0, .int .i64 0, .slice none 0 0, .int .i64 0, .int .i64 0, .int .i64 0, .bool false, .bool false, .int .i64 0, .int .i64 0, .int .i64 0, .int .i64 0, .int .i64 0, .int .i64 0, .int .i64 0] 39)) := (by repeat (first | exact Below.refl _ _ | refine Below.drew ?_ | refine below_drewN ?_ _ | refine Below.setCell ?_ (by first | omega | (simp; done) | (simp; omega)) _ | refine Below.alloc ?_ (by first | omega | (simp; done) | (simp; omega)) _))
  have X0 : Blk ((w.alloc (.cells #[.slice p0 x.xTape.length c0, .slice p1 x.xUsed.length c1, .int .i64 x.xSent, .slice p2 x.xHeard.length c2, .int .i64 x.xCheat.xWho, .int .i64 x.xCheat.xAt, .int .i64 x.xCheat.xBy, .bool x.xCheat.xCry, .bool x.xQuarrel.xSome, .int .i64 x.xQuarrel.xFrom, .int .i64 x.xQuarrel.xCheck, .int .i64 x.xQuarrel.xTo, .int .i64 x.xQuarrel.xTold, .int .i64 x.xQuarrel.xHeard, .int .i64 x.xQuarrel.xOther, .int .i64 x.xQuarrel.xVowed] 33)).alloc (.cells #[.int .i64 0, .int .i64 0, .slice none 0 0, .slice none 0 0, .slice none 0 0, .int .i64 0, .slice none 0 0, .int .i64 0, .int .i64 0, .int .i64 0, .bool false, .bool false, .int .i64 0, .int .i64 0, .int .i64 0, .int .i64 0, .int .i64 0, .int .i64 0, .int .i64 0] 39)) w.heap.size 33 #[.slice p0 x.xTape.length c0, .slice p1 x.xUsed.length c1, .int .i64 x.xSent, .slice p2 x.xHeard.length c2, .int .i64 x.xCheat.xWho, .int .i64 x.xCheat.xAt, .int .i64 x.xCheat.xBy, .bool x.xCheat.xCry, .bool x.xQuarrel.xSome, .int .i64 x.xQuarrel.xFrom, .int .i64 x.xQuarrel.xCheck, .int .i64 x.xQuarrel.xTo, .int .i64 x.xQuarrel.xTold, .int .i64 x.xQuarrel.xHeard, .int .i64 x.xQuarrel.xOther, .int .i64 x.xQuarrel.xVowed] := (Blk.new w _ _).alloc _
  have Y0 : Blk ((w.alloc (.cells #[.slice p0 x.xTape.length c0, .slice p1 x.xUsed.length c1, .int .i64 x.xSent, .slice p2 x.xHeard.length c2, .int .i64 x.xCheat.xWho, .int .i64 x.xCheat.xAt, .int .i64 x.xCheat.xBy, .bool x.xCheat.xCry, .bool x.xQuarrel.xSome, .int .i64 x.xQuarrel.xFrom, .int .i64 x.xQuarrel.xCheck, .int .i64 x.xQuarrel.xTo, .int .i64 x.xQuarrel.xTold, .int .i64 x.xQuarrel.xHeard, .int .i64 x.xQuarrel.xOther, .int .i64 x.xQuarrel.xVowed] 33)).alloc (.cells #[.int .i64 0, .int .i64 0, .slice none 0 0, .slice none 0 0, .slice none 0 0, .int .i64 0, .slice none 0 0, .int .i64 0, .int .i64 0, .int .i64 0, .bool false, .bool false, .int .i64 0, .int .i64 0, .int .i64 0, .int .i64 0, .int .i64 0, .int .i64 0, .int .i64 0] 39)) (w.heap.size + 1) 39 #[.int .i64 0, .int .i64 0, .slice none 0 0, .slice none 0 0, .slice none 0 0, .int .i64 0, .slice none 0 0, .int .i64 0, .int .i64 0, .int .i64 0, .bool false, .bool false, .int .i64 0, .int .i64 0, .int .i64 0, .int .i64 0, .int .i64 0, .int .i64 0, .int .i64 0] := by simpa using Blk.new (w.alloc (.cells #[.slice p0 x.xTape.length c0, .slice p1 x.xUsed.length c1, .int .i64 x.xSent, .slice p2 x.xHeard.length c2, .int .i64 x.xCheat.xWho, .int .i64 x.xCheat.xAt, .int .i64 x.xCheat.xBy, .bool x.xCheat.xCry, .bool x.xQuarrel.xSome, .int .i64 x.xQuarrel.xFrom, .int .i64 x.xQuarrel.xCheck, .int .i64 x.xQuarrel.xTo, .int .i64 x.xQuarrel.xTold, .int .i64 x.xQuarrel.xHeard, .int .i64 x.xQuarrel.xOther, .int .i64 x.xQuarrel.xVowed] 33)) 39 #[.int .i64 0, .int .i64 0, .slice none 0 0, .slice none 0 0, .slice none 0 0, .int .i64 0, .slice none 0 0, .int .i64 0, .int .i64 0, .int .i64 0, .bool false, .bool false, .int .i64 0, .int .i64 0, .int .i64 0, .int .i64 0, .int .i64 0, .int .i64 0, .int .i64 0]
  have sz0 : ((w.alloc (.cells #[.slice p0 x.xTape.length c0, .slice p1 x.xUsed.length c1, .int .i64 x.xSent, .slice p2 x.xHeard.length c2, .int .i64 x.xCheat.xWho, .int .i64 x.xCheat.xAt, .int .i64 x.xCheat.xBy, .bool x.xCheat.xCry, .bool x.xQuarrel.xSome, .int .i64 x.xQuarrel.xFrom, .int .i64 x.xQuarrel.xCheck, .int .i64 x.xQuarrel.xTo, .int .i64 x.xQuarrel.xTold, .int .i64 x.xQuarrel.xHeard, .int .i64 x.xQuarrel.xOther, .int .i64 x.xQuarrel.xVowed] 33)).alloc (.cells #[.int .i64 0, .int .i64 0, .slice none 0 0, .slice none 0 0, .slice none 0 0, .int .i64 0, .slice none 0 0, .int .i64 0, .int .i64 0, .int .i64 0, .bool false, .bool false, .int .i64 0, .int .i64 0, .int .i64 0, .int .i64 0, .int .i64 0, .int .i64 0, .int .i64 0] 39)).heap.size = w.heap.size + 2 := by simp
  have K := fun W h => impl_ownerFault (.agg #[.slice p0 x.xTape.length c0, .slice p1 x.xUsed.length c1, .int .i64 x.xSent, .slice p2 x.xHeard.length c2, .int .i64 x.xCheat.xWho, .int .i64 x.xCheat.xAt, .int .i64 x.xCheat.xBy, .bool x.xCheat.xCry, .bool x.xQuarrel.xSome, .int .i64 x.xQuarrel.xFrom, .int .i64 x.xQuarrel.xCheck, .int .i64 x.xQuarrel.xTo, .int .i64 x.xQuarrel.xTold, .int .i64 x.xQuarrel.xHeard, .int .i64 x.xQuarrel.xOther, .int .i64 x.xQuarrel.xVowed]) x oo W h
  by_cases k0 : ownC x oo = 0
  · rw [k0] at K
    by_cases k1 : 0 ≤ v ∧ v < 256
    · rw [inputR_in k0 k1]
      obtain ⟨zn, zo⟩ := ownC_zero k0
      obtain ⟨o, rfl⟩ := Int.eq_ofNat_of_zero_le zo.1
      rw [Int.toNat_natCast]
      obtain ⟨z0, z1, z2, z3⟩ := netC_zero zn
      have HT4 : Hid (x.xTape.length = 4 ∧ x.xUsed.length = 4 ∧ x.xHeard.length = 4) := ⟨by unfold tapeC at z0; by_cases h : x.xTape.length = 4; (exact h); (rw [if_neg h] at z0; cases z0), z1.1, z1.2⟩
      have hs : 0 ≤ x.xSent ∧ x.xSent ≤ 900000 := by have := ((listsB_iff x).1 z2).2.2; omega
      have hy := (cheatC_zero z3).2.2
      have ho4 : o < 4 := by omega
      have hH0 : 0 < x.xHeard.length := by rw [z1.2]; omega
      have HUD : Hid (∀ j, j < 4 → 0 ≤ x.xUsed.getD j 0 ∧ x.xUsed.getD j 0 ≤ 900000) := fun j hj => by have := (okN_iff _).1 ((listsB_iff x).1 z2).1 j (by rw [z1.1]; exact hj); omega
      have HWD : Hid (∀ l k : Int, 0 ≤ word x.xTape l k) := fun l k => (word_ok z0 l k).1
      clear z0 z1 z2 z3 zn k0
      go_enter Try.func8, Try.ntmps8
      go_wp2_with (refine wpList_load_blk rfl 33 _ rfl w.heap.size rfl X0 Try.underlying33 rfl (by kernel_rfl) ?_)
      refine (K _ ⟨p0, c0, p1, c1, p2, c2, rfl, h0.below B0, h1.below B0, h2.below B0⟩).mono ?_
      rintro e w1 ⟨rfl, hb1⟩
      replace X0 := X0.keep hb1
      replace Y0 := Y0.keep hb1
      replace B0 : Below w.heap.size w w1 := B0.trans (hb1.mono B0.size)
      have sz1 := hb1.size
      rw [sz0] at sz1
      clear hb1
      go_wp2_with fail
      refine (impl_isElement_yes _ _ _ k1.1 k1.2).mono ?_
      rintro e w' ⟨rfl, rfl⟩
      go_wp2_with (refine wpList_load_blk rfl 33 _ rfl w.heap.size rfl X0 Try.underlying33 rfl (by kernel_rfl) ?_)
      refine (impl_copyOfNetT _ x _ ⟨p0, c0, p1, c1, p2, c2, rfl, h0.below B0, h1.below B0, h2.below B0⟩ hx).mono ?_
      rintro e w1b ⟨q0, d0, q1, d1, q2, d2, bt, b1, b2, rfl, T1, U1, H1, j01, j02, j12, f0, f1, f2, hb1⟩
      obtain ⟨gH, d2b, eg⟩ : ∃ gH d2b, Value.slice q2 x.xHeard.length d2 = .slice (some ⟨gH, 0, none⟩) x.xHeard.length d2b := by
        obtain ⟨vs, bo, bi, g1, g2, rfl, g3⟩ := H1
        obtain ⟨g, c, rfl, eg, -, -⟩ := Own.shape g1 hH0
        exact ⟨g, c, eg⟩
      simp only [Value.slice.injEq, true_and] at eg
      obtain ⟨rfl, rfl⟩ := eg
      replace f0 := fun y hy => Nat.le_trans sz1 (f0 y hy)
      replace f1 := fun y hy => Nat.le_trans sz1 (f1 y hy)
      replace f2 := fun y hy => Nat.le_trans sz1 (f2 y hy)
      replace Y0 := Y0.keep hb1
      replace B0 : Below w.heap.size w w1b := B0.trans (hb1.mono B0.size)
      replace sz1 := Nat.le_trans sz1 hb1.size
      clear X0 hb1 sz0 h0 h1 h2
      have Zn := Blk.new w1b 33 #[.slice none 0 0, .slice none 0 0, .int .i64 0, .slice none 0 0, .int .i64 0, .int .i64 0, .int .i64 0, .bool false, .bool false, .int .i64 0, .int .i64 0, .int .i64 0, .int .i64 0, .int .i64 0, .int .i64 0, .int .i64 0]
      go_wp2_with (refine wpList_store_blk rfl 33 _ _ rfl w1b.heap.size (#[.slice q0 x.xTape.length d0, .slice q1 x.xUsed.length d1, .int .i64 x.xSent, .slice (some ⟨gH, 0, none⟩) x.xHeard.length d2, .int .i64 x.xCheat.xWho, .int .i64 x.xCheat.xAt, .int .i64 x.xCheat.xBy, .bool x.xCheat.xCry, .bool x.xQuarrel.xSome, .int .i64 x.xQuarrel.xFrom, .int .i64 x.xQuarrel.xCheck, .int .i64 x.xQuarrel.xTo, .int .i64 x.xQuarrel.xTold, .int .i64 x.xQuarrel.xHeard, .int .i64 x.xQuarrel.xOther, .int .i64 x.xQuarrel.xVowed]) rfl rfl Zn rfl (by kernel_rfl) (by kernel_rfl) ?_; intro w2 Z2 O2)
      have O2' : ∀ y, y < w1b.heap.size → y ∉ [w1b.heap.size] := fun y hy hm => by simp at hm; omega
      have Y2 := (Y0.alloc (.cells #[.slice none 0 0, .slice none 0 0, .int .i64 0, .slice none 0 0, .int .i64 0, .int .i64 0, .int .i64 0, .bool false, .bool false, .int .i64 0, .int .i64 0, .int .i64 0, .int .i64 0, .int .i64 0, .int .i64 0, .int .i64 0] 33)).off O2 (O2' _ Y0.lt)
      have T2 := (T1.alloc (.cells #[.slice none 0 0, .slice none 0 0, .int .i64 0, .slice none 0 0, .int .i64 0, .int .i64 0, .int .i64 0, .bool false, .bool false, .int .i64 0, .int .i64 0, .int .i64 0, .int .i64 0, .int .i64 0, .int .i64 0, .int .i64 0] 33)).off O2 (fun y hy => O2' y (T1.lt y hy))
      have U2 := (Ints.alloc U1 (.cells #[.slice none 0 0, .slice none 0 0, .int .i64 0, .slice none 0 0, .int .i64 0, .int .i64 0, .int .i64 0, .bool false, .bool false, .int .i64 0, .int .i64 0, .int .i64 0, .int .i64 0, .int .i64 0, .int .i64 0, .int .i64 0] 33)).off O2 (fun y hy => O2' y (U1.lt y hy))
      have H2 := (H1.alloc (.cells #[.slice none 0 0, .slice none 0 0, .int .i64 0, .slice none 0 0, .int .i64 0, .int .i64 0, .int .i64 0, .bool false, .bool false, .int .i64 0, .int .i64 0, .int .i64 0, .int .i64 0, .int .i64 0, .int .i64 0, .int .i64 0] 33)).off O2 (fun y hy => O2' y (H1.lt y hy))
      have B2 : Below w.heap.size w w2 := (B0.alloc B0.size _).trans (O2.toBelow (by have := B0.size; simp; omega) (by have := B0.size; simp; omega))
      have nb1 : w1b.heap.size ∉ b1 := fun hm => Nat.lt_irrefl _ (U1.lt _ hm)
      have ltY := Y0.lt
      have nbH : w1b.heap.size ∉ b2 := fun hm => Nat.lt_irrefl _ (H1.lt _ hm)
      have nbT : w1b.heap.size ∉ bt := fun hm => Nat.lt_irrefl _ (T1.lt _ hm)
      clear Y0 B0 T1 U1 H1 O2 Zn
      generalize w1b.heap.size = g at *
      have ltT := T2.lt
      have ltU := U2.lt
      have ltH := H2.lt
      have zB := B2.size
      have zg := Z2.lt
      have KI := impl_input g x q0 q1 gH d0 d1 d2 bt b1 b2 o v w2 Z2 T2 U2 H2 nbT nb1 nbH j01 j02 j12 ho4 k1 HT4.out HUD.out HWD.out hs hy (fun k => Nat.le_trans (hx.r k) (by omega))
      go_wp2_with fail
      refine KI.mono ?_
      rintro e w3 ⟨p6, c6, bm, cs, rfl, M3, hf3, djm, Z3, T3, U3, H3, hcs3, O3⟩
      have Y3 := Y2.off O3 (fun hm => by simp at hm; rcases hm with h | h | h; omega; (have := f1 _ h; omega); (have := f2 _ h; omega))
      have B3 : Below w.heap.size w w3 := B2.trans (O3.toBelow zB (fun y hy => by simp at hy; rcases hy with h | h | h; omega; (have := f1 _ h; omega); (have := f2 _ h; omega)))
      have hA : Below w3.heap.size w3 (w3.alloc (.cells #[.int .i64 256, .slice p6 4 c6] 37)) := (Below.refl _ _).alloc (Nat.le_refl _) _
      have Z4 := Z3.keep hA
      have Y4 := Y3.keep hA
      have M4 := M3.keep hA
      have T4 := T3.keep hA
      have U4 := U3.keep hA
      have H4 := H3.keep hA
      have B4 := B3.trans (hA.mono B3.size)
      clear Z3 Y3 M3 T3 U3 H3 B3 hA O3 KI Z2 T2 U2 H2 B2 Y2
      go_wp2_with (first | (refine wpList_load_blk rfl 33 _ rfl g rfl Z4 Try.underlying33 rfl (by kernel_rfl) ?_) | (refine wpList_store_blk rfl 39 _ _ rfl (w.heap.size + 1) (#[.int .i64 0, .int .i64 256, .slice p6 4 c6, .slice q0 x.xTape.length d0, .slice q1 x.xUsed.length d1, .int .i64 (inSt x o 4), .slice (some ⟨gH, 0, none⟩) x.xHeard.length d2, .int .i64 x.xCheat.xWho, .int .i64 x.xCheat.xAt, .int .i64 x.xCheat.xBy, .bool x.xCheat.xCry, .bool x.xQuarrel.xSome, .int .i64 x.xQuarrel.xFrom, .int .i64 x.xQuarrel.xCheck, .int .i64 x.xQuarrel.xTo, .int .i64 x.xQuarrel.xTold, .int .i64 x.xQuarrel.xHeard, .int .i64 x.xQuarrel.xOther, .int .i64 x.xQuarrel.xVowed]) rfl rfl Y4 rfl (by kernel_rfl) (by kernel_rfl) ?_; intro w5 Y5 O5))
      have ny : ∀ y, w.heap.size + 1 < y → y ∉ [w.heap.size + 1] := fun y h hm => by simp at hm; omega
      have B5 : Below w.heap.size w w5 := B4.trans (O5.toBelow B4.size (by simp))
      have hcs6 : ∀ y ∈ cs, w.heap.size + 1 < y := fun y hy => by rcases hcs3 y hy with h | h; (have := f2 y h; omega); omega
      have hbm6 : ∀ y ∈ bm, w.heap.size + 1 < y := fun y hy => by have := hf3 y hy; omega
      have M5 := M4.off O5 (fun y hy => ny y (hbm6 y hy))
      have T5 := T4.off O5 (fun y hy => ny y (by have := f0 y hy; omega))
      have U5 := U4.off O5 (fun y hy => ny y (by have := f1 y hy; omega))
      have H5 := H4.off O5 (fun y hy => ny y (hcs6 y hy))
      have HM4 : Hid ((mirRows (inParts x o v)).length = 4) := by show _ = _; exact (mirRows_sq (by unfold inParts; rw [List.length_set]; exact inP_len x o 4)).1
      have HN : Hid (gaveN x o v = { x with xUsed := inU x.xUsed o 4, xSent := inSt x o 4, xHeard := inHd x o (inL x o v 4) 4 }) := rfl
      refine bodyPost_ret (v := .agg #[.int .i64 0, .int .i64 256, .slice p6 4 c6, .slice q0 x.xTape.length d0, .slice q1 x.xUsed.length d1, .int .i64 (inSt x o 4), .slice (some ⟨gH, 0, none⟩) x.xHeard.length d2, .int .i64 x.xCheat.xWho, .int .i64 x.xCheat.xAt, .int .i64 x.xCheat.xBy, .bool x.xCheat.xCry, .bool x.xQuarrel.xSome, .int .i64 x.xQuarrel.xFrom, .int .i64 x.xQuarrel.xCheck, .int .i64 x.xQuarrel.xTo, .int .i64 x.xQuarrel.xTold, .int .i64 x.xQuarrel.xHeard, .int .i64 x.xQuarrel.xOther, .int .i64 x.xQuarrel.xVowed]) (results_blk Try.results8 rfl Y5 Try.underlying39 rfl (by kernel_rfl)) rfl ⟨_, bm, bt, b1, cs, rfl, ?_, fun y hy => by have := hbm6 y hy; omega, fun y hy => by have := f0 y hy; omega, fun y hy => by have := f1 y hy; omega, fun y hy => by have := hcs6 y hy; omega, B5⟩
      rw [HN.out]
      refine ⟨p6, c6, q0, d0, q1, d1, some ⟨gH, 0, none⟩, d2, ?_, ?_, T5, ?_, ?_, ?_, ?_, djm, j01, ?_, ?_⟩
      · dsimp only; rw [HM4.out, inU_len, inHd_len]
      · dsimp only; rw [HM4.out]; exact M5
      · dsimp only; rw [inU_len]; exact U5
      · dsimp only; rw [inHd_len]; exact H5.mat
      · exact fun y hy hm => by have := hf3 y hy; have := ltT y hm; omega
      · exact fun y hy hm => by have := hf3 y hy; have := ltU y hm; omega
      · exact fun y hy hm => by rcases hcs3 y hm with h | h; (exact j02 y hy h); (have := ltT y hy; omega)
      · exact fun y hy hm => by rcases hcs3 y hm with h | h; (exact j12 y hy h); (have := ltU y hy; omega)
    · rw [inputR_out k0 k1]
      clear k0
      go_enter Try.func8, Try.ntmps8
      go_wp2_with (refine wpList_load_blk rfl 33 _ rfl w.heap.size rfl X0 Try.underlying33 rfl (by kernel_rfl) ?_)
      refine (K _ ⟨p0, c0, p1, c1, p2, c2, rfl, h0.below B0, h1.below B0, h2.below B0⟩).mono ?_
      rintro e w1 ⟨rfl, hb1⟩
      replace X0 := X0.keep hb1
      replace Y0 := Y0.keep hb1
      replace B0 : Below w.heap.size w w1 := B0.trans (hb1.mono B0.size)
      have sz1 := hb1.size
      rw [sz0] at sz1
      clear hb1
      go_wp2_with fail
      refine (impl_isElement_no _ _ _ (by omega)).mono ?_
      rintro e w' ⟨rfl, rfl⟩
      go_wp2_with (refine wpList_store_blk rfl 39 _ _ rfl (w.heap.size + 1) (#[.int .i64 3, .int .i64 0, .slice none 0 0, .slice none 0 0, .slice none 0 0, .int .i64 0, .slice none 0 0, .int .i64 0, .int .i64 0, .int .i64 0, .bool false, .bool false, .int .i64 0, .int .i64 0, .int .i64 0, .int .i64 0, .int .i64 0, .int .i64 0, .int .i64 0]) rfl rfl Y0 rfl (by kernel_rfl) (by kernel_rfl) ?_; intro w9 Y9 O9)
      have B9 : Below w.heap.size w w9 := B0.trans (O9.toBelow B0.size (by simp))
      exact bodyPost_ret (v := .agg #[.int .i64 3, .int .i64 0, .slice none 0 0, .slice none 0 0, .slice none 0 0, .int .i64 0, .slice none 0 0, .int .i64 0, .int .i64 0, .int .i64 0, .bool false, .bool false, .int .i64 0, .int .i64 0, .int .i64 0, .int .i64 0, .int .i64 0, .int .i64 0, .int .i64 0]) (results_blk Try.results8 rfl Y9 Try.underlying39 rfl (by kernel_rfl)) rfl (OutMix.bad _ B9)
  · rw [inputR_fault k0]
    have hne : (ownC x oo != 0) = true := by simpa using k0
    generalize ownC x oo = r at *
    clear k0
    go_enter Try.func8, Try.ntmps8
    go_wp2_with (refine wpList_load_blk rfl 33 _ rfl w.heap.size rfl X0 Try.underlying33 rfl (by kernel_rfl) ?_)
    refine (K _ ⟨p0, c0, p1, c1, p2, c2, rfl, h0.below B0, h1.below B0, h2.below B0⟩).mono ?_
    rintro e w1 ⟨rfl, hb1⟩
    replace X0 := X0.keep hb1
    replace Y0 := Y0.keep hb1
    replace B0 : Below w.heap.size w w1 := B0.trans (hb1.mono B0.size)
    have sz1 := hb1.size
    rw [sz0] at sz1
    clear hb1
    go_wp2_with (refine wpList_store_blk rfl 39 _ _ rfl (w.heap.size + 1) (#[.int .i64 r, .int .i64 0, .slice none 0 0, .slice none 0 0, .slice none 0 0, .int .i64 0, .slice none 0 0, .int .i64 0, .int .i64 0, .int .i64 0, .bool false, .bool false, .int .i64 0, .int .i64 0, .int .i64 0, .int .i64 0, .int .i64 0, .int .i64 0, .int .i64 0]) rfl rfl Y0 rfl (by kernel_rfl) (by kernel_rfl) ?_; intro w9 Y9 O9)
    have B9 : Below w.heap.size w w9 := B0.trans (O9.toBelow B0.size (by simp))
    exact bodyPost_ret (v := .agg #[.int .i64 r, .int .i64 0, .slice none 0 0, .slice none 0 0, .slice none 0 0, .int .i64 0, .slice none 0 0, .int .i64 0, .int .i64 0, .int .i64 0, .bool false, .bool false, .int .i64 0, .int .i64 0, .int .i64 0, .int .i64 0, .int .i64 0, .int .i64 0, .int .i64 0]) (results_blk Try.results8 rfl Y9 Try.underlying39 rfl (by kernel_rfl)) rfl (OutMix.bad _ B9)
set_option maxHeartbeats 8000000 in
set_option maxRecDepth 100000 in
theorem spec_InputMirror (vv : Value) (x : MNet) (oo v : Int) (w : World) (hv : RdNet w vv x) (hx : Fit x) :
    Calls Try.prog 12 #[vv, .int .i64 oo, .int .i64 v] w fun e w' => OutMix w w' (inputR x oo v) e := by
  obtain ⟨p0, c0, p1, c1, p2, c2, rfl, h0, h1, h2⟩ := hv
  have B0 : Below w.heap.size w ((w.alloc (.cells #[.slice p0 x.xTape.length c0, .slice p1 x.xUsed.length c1, .int .i64 x.xSent, .slice p2 x.xHeard.length c2, .int .i64 x.xCheat.xWho, .int .i64 x.xCheat.xAt, .int .i64 x.xCheat.xBy, .bool x.xCheat.xCry, .bool x.xQuarrel.xSome, .int .i64 x.xQuarrel.xFrom, .int .i64 x.xQuarrel.xCheck, .int .i64 x.xQuarrel.xTo, .int .i64 x.xQuarrel.xTold, .int .i64 x.xQuarrel.xHeard, .int .i64 x.xQuarrel.xOther, .int .i64 x.xQuarrel.xVowed] 33)).alloc (.cells #[.int .i64 0, .int .i64 0, .slice none 0 0, .slice none 0 0, .slice none 0 0, .int .i64 0, .slice none 0 0, .int .i64 0, .int .i64 0, .int .i64 0, .bool false, .bool false, .int .i64 0, .int .i64 0, .int .i64 0, .int .i64 0, .int .i64 0, .int .i64 0, .int .i64 0] 39)) := (by repeat (first | exact Below.refl _ _ | refine Below.drew ?_ | refine below_drewN ?_ _ | refine Below.setCell ?_ (by first | omega | (simp; done) | (simp; omega)) _ | refine Below.alloc ?_ (by first | omega | (simp; done) | (simp; omega)) _))
  have X0 : Blk ((w.alloc (.cells #[.slice p0 x.xTape.length c0, .slice p1 x.xUsed.length c1, .int .i64 x.xSent, .slice p2 x.xHeard.length c2, .int .i64 x.xCheat.xWho, .int .i64 x.xCheat.xAt, .int .i64 x.xCheat.xBy, .bool x.xCheat.xCry, .bool x.xQuarrel.xSome, .int .i64 x.xQuarrel.xFrom, .int .i64 x.xQuarrel.xCheck, .int .i64 x.xQuarrel.xTo, .int .i64 x.xQuarrel.xTold, .int .i64 x.xQuarrel.xHeard, .int .i64 x.xQuarrel.xOther, .int .i64 x.xQuarrel.xVowed] 33)).alloc (.cells #[.int .i64 0, .int .i64 0, .slice none 0 0, .slice none 0 0, .slice none 0 0, .int .i64 0, .slice none 0 0, .int .i64 0, .int .i64 0, .int .i64 0, .bool false, .bool false, .int .i64 0, .int .i64 0, .int .i64 0, .int .i64 0, .int .i64 0, .int .i64 0, .int .i64 0] 39)) w.heap.size 33 #[.slice p0 x.xTape.length c0, .slice p1 x.xUsed.length c1, .int .i64 x.xSent, .slice p2 x.xHeard.length c2, .int .i64 x.xCheat.xWho, .int .i64 x.xCheat.xAt, .int .i64 x.xCheat.xBy, .bool x.xCheat.xCry, .bool x.xQuarrel.xSome, .int .i64 x.xQuarrel.xFrom, .int .i64 x.xQuarrel.xCheck, .int .i64 x.xQuarrel.xTo, .int .i64 x.xQuarrel.xTold, .int .i64 x.xQuarrel.xHeard, .int .i64 x.xQuarrel.xOther, .int .i64 x.xQuarrel.xVowed] := (Blk.new w _ _).alloc _
  have Y0 : Blk ((w.alloc (.cells #[.slice p0 x.xTape.length c0, .slice p1 x.xUsed.length c1, .int .i64 x.xSent, .slice p2 x.xHeard.length c2, .int .i64 x.xCheat.xWho, .int .i64 x.xCheat.xAt, .int .i64 x.xCheat.xBy, .bool x.xCheat.xCry, .bool x.xQuarrel.xSome, .int .i64 x.xQuarrel.xFrom, .int .i64 x.xQuarrel.xCheck, .int .i64 x.xQuarrel.xTo, .int .i64 x.xQuarrel.xTold, .int .i64 x.xQuarrel.xHeard, .int .i64 x.xQuarrel.xOther, .int .i64 x.xQuarrel.xVowed] 33)).alloc (.cells #[.int .i64 0, .int .i64 0, .slice none 0 0, .slice none 0 0, .slice none 0 0, .int .i64 0, .slice none 0 0, .int .i64 0, .int .i64 0, .int .i64 0, .bool false, .bool false, .int .i64 0, .int .i64 0, .int .i64 0, .int .i64 0, .int .i64 0, .int .i64 0, .int .i64 0] 39)) (w.heap.size + 1) 39 #[.int .i64 0, .int .i64 0, .slice none 0 0, .slice none 0 0, .slice none 0 0, .int .i64 0, .slice none 0 0, .int .i64 0, .int .i64 0, .int .i64 0, .bool false, .bool false, .int .i64 0, .int .i64 0, .int .i64 0, .int .i64 0, .int .i64 0, .int .i64 0, .int .i64 0] := by simpa using Blk.new (w.alloc (.cells #[.slice p0 x.xTape.length c0, .slice p1 x.xUsed.length c1, .int .i64 x.xSent, .slice p2 x.xHeard.length c2, .int .i64 x.xCheat.xWho, .int .i64 x.xCheat.xAt, .int .i64 x.xCheat.xBy, .bool x.xCheat.xCry, .bool x.xQuarrel.xSome, .int .i64 x.xQuarrel.xFrom, .int .i64 x.xQuarrel.xCheck, .int .i64 x.xQuarrel.xTo, .int .i64 x.xQuarrel.xTold, .int .i64 x.xQuarrel.xHeard, .int .i64 x.xQuarrel.xOther, .int .i64 x.xQuarrel.xVowed] 33)) 39 #[.int .i64 0, .int .i64 0, .slice none 0 0, .slice none 0 0, .slice none 0 0, .int .i64 0, .slice none 0 0, .int .i64 0, .int .i64 0, .int .i64 0, .bool false, .bool false, .int .i64 0, .int .i64 0, .int .i64 0, .int .i64 0, .int .i64 0, .int .i64 0, .int .i64 0]
  have sz0 : ((w.alloc (.cells #[.slice p0 x.xTape.length c0, .slice p1 x.xUsed.length c1, .int .i64 x.xSent, .slice p2 x.xHeard.length c2, .int .i64 x.xCheat.xWho, .int .i64 x.xCheat.xAt, .int .i64 x.xCheat.xBy, .bool x.xCheat.xCry, .bool x.xQuarrel.xSome, .int .i64 x.xQuarrel.xFrom, .int .i64 x.xQuarrel.xCheck, .int .i64 x.xQuarrel.xTo, .int .i64 x.xQuarrel.xTold, .int .i64 x.xQuarrel.xHeard, .int .i64 x.xQuarrel.xOther, .int .i64 x.xQuarrel.xVowed] 33)).alloc (.cells #[.int .i64 0, .int .i64 0, .slice none 0 0, .slice none 0 0, .slice none 0 0, .int .i64 0, .slice none 0 0, .int .i64 0, .int .i64 0, .int .i64 0, .bool false, .bool false, .int .i64 0, .int .i64 0, .int .i64 0, .int .i64 0, .int .i64 0, .int .i64 0, .int .i64 0] 39)).heap.size = w.heap.size + 2 := by simp
  have K := spec_l6Asked w.heap.size x p0 p1 p2 c0 c1 c2 oo ((w.alloc (.cells #[.slice p0 x.xTape.length c0, .slice p1 x.xUsed.length c1, .int .i64 x.xSent, .slice p2 x.xHeard.length c2, .int .i64 x.xCheat.xWho, .int .i64 x.xCheat.xAt, .int .i64 x.xCheat.xBy, .bool x.xCheat.xCry, .bool x.xQuarrel.xSome, .int .i64 x.xQuarrel.xFrom, .int .i64 x.xQuarrel.xCheck, .int .i64 x.xQuarrel.xTo, .int .i64 x.xQuarrel.xTold, .int .i64 x.xQuarrel.xHeard, .int .i64 x.xQuarrel.xOther, .int .i64 x.xQuarrel.xVowed] 33)).alloc (.cells #[.int .i64 0, .int .i64 0, .slice none 0 0, .slice none 0 0, .slice none 0 0, .int .i64 0, .slice none 0 0, .int .i64 0, .int .i64 0, .int .i64 0, .bool false, .bool false, .int .i64 0, .int .i64 0, .int .i64 0, .int .i64 0, .int .i64 0, .int .i64 0, .int .i64 0] 39)) X0 (h0.below B0) (h1.below B0) (h2.below B0)
  by_cases k0 : ownC x oo = 0
  · rw [k0] at K
    by_cases k1 : 0 ≤ v ∧ v < 256
    · rw [inputR_in k0 k1]
      obtain ⟨zn, zo⟩ := ownC_zero k0
      obtain ⟨o, rfl⟩ := Int.eq_ofNat_of_zero_le zo.1
      rw [Int.toNat_natCast]
      obtain ⟨z0, z1, z2, z3⟩ := netC_zero zn
      have HT4 : Hid (x.xTape.length = 4 ∧ x.xUsed.length = 4 ∧ x.xHeard.length = 4) := ⟨by unfold tapeC at z0; by_cases h : x.xTape.length = 4; (exact h); (rw [if_neg h] at z0; cases z0), z1.1, z1.2⟩
      have hs : 0 ≤ x.xSent ∧ x.xSent ≤ 900000 := by have := ((listsB_iff x).1 z2).2.2; omega
      have hy := (cheatC_zero z3).2.2
      have ho4 : o < 4 := by omega
      have hH0 : 0 < x.xHeard.length := by rw [z1.2]; omega
      have HUD : Hid (∀ j, j < 4 → 0 ≤ x.xUsed.getD j 0 ∧ x.xUsed.getD j 0 ≤ 900000) := fun j hj => by have := (okN_iff _).1 ((listsB_iff x).1 z2).1 j (by rw [z1.1]; exact hj); omega
      have HWD : Hid (∀ l k : Int, 0 ≤ word x.xTape l k) := fun l k => (word_ok z0 l k).1
      clear z0 z1 z2 z3 zn k0
      go_enter Try.func12, Try.ntmps12
      go_wp2_with fail
      refine K.mono ?_
      rintro e w' ⟨rfl, rfl⟩
      clear K
      generalize ((w.alloc (.cells #[.slice p0 x.xTape.length c0, .slice p1 x.xUsed.length c1, .int .i64 x.xSent, .slice p2 x.xHeard.length c2, .int .i64 x.xCheat.xWho, .int .i64 x.xCheat.xAt, .int .i64 x.xCheat.xBy, .bool x.xCheat.xCry, .bool x.xQuarrel.xSome, .int .i64 x.xQuarrel.xFrom, .int .i64 x.xQuarrel.xCheck, .int .i64 x.xQuarrel.xTo, .int .i64 x.xQuarrel.xTold, .int .i64 x.xQuarrel.xHeard, .int .i64 x.xQuarrel.xOther, .int .i64 x.xQuarrel.xVowed] 33)).alloc (.cells #[.int .i64 0, .int .i64 0, .slice none 0 0, .slice none 0 0, .slice none 0 0, .int .i64 0, .slice none 0 0, .int .i64 0, .int .i64 0, .int .i64 0, .bool false, .bool false, .int .i64 0, .int .i64 0, .int .i64 0, .int .i64 0, .int .i64 0, .int .i64 0, .int .i64 0] 39)) = w1 at *
      have sz1 : w.heap.size + 2 ≤ w1.heap.size := by rw [sz0]; exact Nat.le_refl _
      go_wp2_with fail
      refine (spec_l1Has_yes _ _ _ (by omega) (by omega) k1.1 k1.2).mono ?_
      rintro e w' ⟨rfl, rfl⟩
      go_wp2_with (refine wpList_load_blk rfl 33 _ rfl w.heap.size rfl X0 Try.underlying33 rfl (by kernel_rfl) ?_)
      refine (spec_l4CopyT _ x _ ⟨p0, c0, p1, c1, p2, c2, rfl, h0.below B0, h1.below B0, h2.below B0⟩ hx).mono ?_
      rintro e w1b ⟨q0, d0, q1, d1, q2, d2, bt, b1, b2, rfl, T1, U1, H1, j01, j02, j12, f0, f1, f2, hb1⟩
      obtain ⟨gH, d2b, eg⟩ : ∃ gH d2b, Value.slice q2 x.xHeard.length d2 = .slice (some ⟨gH, 0, none⟩) x.xHeard.length d2b := by
        obtain ⟨vs, bo, bi, g1, g2, rfl, g3⟩ := H1
        obtain ⟨g, c, rfl, eg, -, -⟩ := Own.shape g1 hH0
        exact ⟨g, c, eg⟩
      simp only [Value.slice.injEq, true_and] at eg
      obtain ⟨rfl, rfl⟩ := eg
      replace f0 := fun y hy => Nat.le_trans sz1 (f0 y hy)
      replace f1 := fun y hy => Nat.le_trans sz1 (f1 y hy)
      replace f2 := fun y hy => Nat.le_trans sz1 (f2 y hy)
      replace Y0 := Y0.keep hb1
      replace B0 : Below w.heap.size w w1b := B0.trans (hb1.mono B0.size)
      replace sz1 := Nat.le_trans sz1 hb1.size
      clear X0 hb1 sz0 h0 h1 h2
      have Zn := Blk.new w1b 33 #[.slice none 0 0, .slice none 0 0, .int .i64 0, .slice none 0 0, .int .i64 0, .int .i64 0, .int .i64 0, .bool false, .bool false, .int .i64 0, .int .i64 0, .int .i64 0, .int .i64 0, .int .i64 0, .int .i64 0, .int .i64 0]
      go_wp2_with (refine wpList_store_blk rfl 33 _ _ rfl w1b.heap.size (#[.slice q0 x.xTape.length d0, .slice q1 x.xUsed.length d1, .int .i64 x.xSent, .slice (some ⟨gH, 0, none⟩) x.xHeard.length d2, .int .i64 x.xCheat.xWho, .int .i64 x.xCheat.xAt, .int .i64 x.xCheat.xBy, .bool x.xCheat.xCry, .bool x.xQuarrel.xSome, .int .i64 x.xQuarrel.xFrom, .int .i64 x.xQuarrel.xCheck, .int .i64 x.xQuarrel.xTo, .int .i64 x.xQuarrel.xTold, .int .i64 x.xQuarrel.xHeard, .int .i64 x.xQuarrel.xOther, .int .i64 x.xQuarrel.xVowed]) rfl rfl Zn rfl (by kernel_rfl) (by kernel_rfl) ?_; intro w2 Z2 O2)
      have O2' : ∀ y, y < w1b.heap.size → y ∉ [w1b.heap.size] := fun y hy hm => by simp at hm; omega
      have Y2 := (Y0.alloc (.cells #[.slice none 0 0, .slice none 0 0, .int .i64 0, .slice none 0 0, .int .i64 0, .int .i64 0, .int .i64 0, .bool false, .bool false, .int .i64 0, .int .i64 0, .int .i64 0, .int .i64 0, .int .i64 0, .int .i64 0, .int .i64 0] 33)).off O2 (O2' _ Y0.lt)
      have T2 := (T1.alloc (.cells #[.slice none 0 0, .slice none 0 0, .int .i64 0, .slice none 0 0, .int .i64 0, .int .i64 0, .int .i64 0, .bool false, .bool false, .int .i64 0, .int .i64 0, .int .i64 0, .int .i64 0, .int .i64 0, .int .i64 0, .int .i64 0] 33)).off O2 (fun y hy => O2' y (T1.lt y hy))
      have U2 := (Ints.alloc U1 (.cells #[.slice none 0 0, .slice none 0 0, .int .i64 0, .slice none 0 0, .int .i64 0, .int .i64 0, .int .i64 0, .bool false, .bool false, .int .i64 0, .int .i64 0, .int .i64 0, .int .i64 0, .int .i64 0, .int .i64 0, .int .i64 0] 33)).off O2 (fun y hy => O2' y (U1.lt y hy))
      have H2 := (H1.alloc (.cells #[.slice none 0 0, .slice none 0 0, .int .i64 0, .slice none 0 0, .int .i64 0, .int .i64 0, .int .i64 0, .bool false, .bool false, .int .i64 0, .int .i64 0, .int .i64 0, .int .i64 0, .int .i64 0, .int .i64 0, .int .i64 0] 33)).off O2 (fun y hy => O2' y (H1.lt y hy))
      have B2 : Below w.heap.size w w2 := (B0.alloc B0.size _).trans (O2.toBelow (by have := B0.size; simp; omega) (by have := B0.size; simp; omega))
      have nb1 : w1b.heap.size ∉ b1 := fun hm => Nat.lt_irrefl _ (U1.lt _ hm)
      have ltY := Y0.lt
      have nbH : w1b.heap.size ∉ b2 := fun hm => Nat.lt_irrefl _ (H1.lt _ hm)
      have nbT : w1b.heap.size ∉ bt := fun hm => Nat.lt_irrefl _ (T1.lt _ hm)
      clear Y0 B0 T1 U1 H1 O2 Zn
      generalize w1b.heap.size = g at *
      have ltT := T2.lt
      have ltU := U2.lt
      have ltH := H2.lt
      have zB := B2.size
      have zg := Z2.lt
      have KI := spec_l6Input g x q0 q1 gH d0 d1 d2 bt b1 b2 o v w2 Z2 T2 U2 H2 nbT nb1 nbH j01 j02 j12 ho4 k1 HT4.out HUD.out HWD.out hs hy (fun k => Nat.le_trans (hx.r k) (by omega))
      go_wp2_with fail
      refine KI.mono ?_
      rintro e w3 ⟨p6, c6, bm, cs, rfl, M3, hf3, djm, Z3, T3, U3, H3, hcs3, O3⟩
      have Y3 := Y2.off O3 (fun hm => by simp at hm; rcases hm with h | h | h; omega; (have := f1 _ h; omega); (have := f2 _ h; omega))
      have B3 : Below w.heap.size w w3 := B2.trans (O3.toBelow zB (fun y hy => by simp at hy; rcases hy with h | h | h; omega; (have := f1 _ h; omega); (have := f2 _ h; omega)))
      have hA : Below w3.heap.size w3 (w3.alloc (.cells #[.int .i64 256, .slice p6 4 c6] 37)) := (Below.refl _ _).alloc (Nat.le_refl _) _
      have Z4 := Z3.keep hA
      have Y4 := Y3.keep hA
      have M4 := M3.keep hA
      have T4 := T3.keep hA
      have U4 := U3.keep hA
      have H4 := H3.keep hA
      have B4 := B3.trans (hA.mono B3.size)
      clear Z3 Y3 M3 T3 U3 H3 B3 hA O3 KI Z2 T2 U2 H2 B2 Y2
      go_wp2_with (first | (refine wpList_load_blk rfl 33 _ rfl g rfl Z4 Try.underlying33 rfl (by kernel_rfl) ?_) | (refine wpList_store_blk rfl 39 _ _ rfl (w.heap.size + 1) (#[.int .i64 0, .int .i64 256, .slice p6 4 c6, .slice q0 x.xTape.length d0, .slice q1 x.xUsed.length d1, .int .i64 (inSt x o 4), .slice (some ⟨gH, 0, none⟩) x.xHeard.length d2, .int .i64 x.xCheat.xWho, .int .i64 x.xCheat.xAt, .int .i64 x.xCheat.xBy, .bool x.xCheat.xCry, .bool x.xQuarrel.xSome, .int .i64 x.xQuarrel.xFrom, .int .i64 x.xQuarrel.xCheck, .int .i64 x.xQuarrel.xTo, .int .i64 x.xQuarrel.xTold, .int .i64 x.xQuarrel.xHeard, .int .i64 x.xQuarrel.xOther, .int .i64 x.xQuarrel.xVowed]) rfl rfl Y4 rfl (by kernel_rfl) (by kernel_rfl) ?_; intro w5 Y5 O5))
      have ny : ∀ y, w.heap.size + 1 < y → y ∉ [w.heap.size + 1] := fun y h hm => by simp at hm; omega
      have B5 : Below w.heap.size w w5 := B4.trans (O5.toBelow B4.size (by simp))
      have hcs6 : ∀ y ∈ cs, w.heap.size + 1 < y := fun y hy => by rcases hcs3 y hy with h | h; (have := f2 y h; omega); omega
      have hbm6 : ∀ y ∈ bm, w.heap.size + 1 < y := fun y hy => by have := hf3 y hy; omega
      have M5 := M4.off O5 (fun y hy => ny y (hbm6 y hy))
      have T5 := T4.off O5 (fun y hy => ny y (by have := f0 y hy; omega))
      have U5 := U4.off O5 (fun y hy => ny y (by have := f1 y hy; omega))
      have H5 := H4.off O5 (fun y hy => ny y (hcs6 y hy))
      have HM4 : Hid ((mirRows (inParts x o v)).length = 4) := by show _ = _; exact (mirRows_sq (by unfold inParts; rw [List.length_set]; exact inP_len x o 4)).1
      have HN : Hid (gaveN x o v = { x with xUsed := inU x.xUsed o 4, xSent := inSt x o 4, xHeard := inHd x o (inL x o v 4) 4 }) := rfl
      refine bodyPost_ret (v := .agg #[.int .i64 0, .int .i64 256, .slice p6 4 c6, .slice q0 x.xTape.length d0, .slice q1 x.xUsed.length d1, .int .i64 (inSt x o 4), .slice (some ⟨gH, 0, none⟩) x.xHeard.length d2, .int .i64 x.xCheat.xWho, .int .i64 x.xCheat.xAt, .int .i64 x.xCheat.xBy, .bool x.xCheat.xCry, .bool x.xQuarrel.xSome, .int .i64 x.xQuarrel.xFrom, .int .i64 x.xQuarrel.xCheck, .int .i64 x.xQuarrel.xTo, .int .i64 x.xQuarrel.xTold, .int .i64 x.xQuarrel.xHeard, .int .i64 x.xQuarrel.xOther, .int .i64 x.xQuarrel.xVowed]) (results_blk Try.results12 rfl Y5 Try.underlying39 rfl (by kernel_rfl)) rfl ⟨_, bm, bt, b1, cs, rfl, ?_, fun y hy => by have := hbm6 y hy; omega, fun y hy => by have := f0 y hy; omega, fun y hy => by have := f1 y hy; omega, fun y hy => by have := hcs6 y hy; omega, B5⟩
      rw [HN.out]
      refine ⟨p6, c6, q0, d0, q1, d1, some ⟨gH, 0, none⟩, d2, ?_, ?_, T5, ?_, ?_, ?_, ?_, djm, j01, ?_, ?_⟩
      · dsimp only; rw [HM4.out, inU_len, inHd_len]
      · dsimp only; rw [HM4.out]; exact M5
      · dsimp only; rw [inU_len]; exact U5
      · dsimp only; rw [inHd_len]; exact H5.mat
      · exact fun y hy hm => by have := hf3 y hy; have := ltT y hm; omega
      · exact fun y hy hm => by have := hf3 y hy; have := ltU y hm; omega
      · exact fun y hy hm => by rcases hcs3 y hm with h | h; (exact j02 y hy h); (have := ltT y hy; omega)
      · exact fun y hy hm => by rcases hcs3 y hm with h | h; (exact j12 y hy h); (have := ltU y hy; omega)
    · rw [inputR_out k0 k1]
      clear k0
      go_enter Try.func12, Try.ntmps12
      go_wp2_with fail
      refine K.mono ?_
      rintro e w' ⟨rfl, rfl⟩
      clear K
      generalize ((w.alloc (.cells #[.slice p0 x.xTape.length c0, .slice p1 x.xUsed.length c1, .int .i64 x.xSent, .slice p2 x.xHeard.length c2, .int .i64 x.xCheat.xWho, .int .i64 x.xCheat.xAt, .int .i64 x.xCheat.xBy, .bool x.xCheat.xCry, .bool x.xQuarrel.xSome, .int .i64 x.xQuarrel.xFrom, .int .i64 x.xQuarrel.xCheck, .int .i64 x.xQuarrel.xTo, .int .i64 x.xQuarrel.xTold, .int .i64 x.xQuarrel.xHeard, .int .i64 x.xQuarrel.xOther, .int .i64 x.xQuarrel.xVowed] 33)).alloc (.cells #[.int .i64 0, .int .i64 0, .slice none 0 0, .slice none 0 0, .slice none 0 0, .int .i64 0, .slice none 0 0, .int .i64 0, .int .i64 0, .int .i64 0, .bool false, .bool false, .int .i64 0, .int .i64 0, .int .i64 0, .int .i64 0, .int .i64 0, .int .i64 0, .int .i64 0] 39)) = w1 at *
      have sz1 : w.heap.size + 2 ≤ w1.heap.size := by rw [sz0]; exact Nat.le_refl _
      go_wp2_with fail
      refine (spec_l1Has_no _ _ _ (by omega) (by omega) (by omega)).mono ?_
      rintro e w' ⟨rfl, rfl⟩
      go_wp2_with fail
      refine (spec_l5Bad _ _).mono ?_
      rintro e w8 ⟨rfl, hb8⟩
      replace Y0 := Y0.keep hb8
      replace B0 : Below w.heap.size w w8 := B0.trans (hb8.mono B0.size)
      go_wp2_with (refine wpList_store_blk rfl 39 _ _ rfl (w.heap.size + 1) (#[.int .i64 3, .int .i64 0, .slice none 0 0, .slice none 0 0, .slice none 0 0, .int .i64 0, .slice none 0 0, .int .i64 0, .int .i64 0, .int .i64 0, .bool false, .bool false, .int .i64 0, .int .i64 0, .int .i64 0, .int .i64 0, .int .i64 0, .int .i64 0, .int .i64 0]) rfl rfl Y0 rfl (by kernel_rfl) (by kernel_rfl) ?_; intro w9 Y9 O9)
      have B9 : Below w.heap.size w w9 := B0.trans (O9.toBelow B0.size (by simp))
      exact bodyPost_ret (v := .agg #[.int .i64 3, .int .i64 0, .slice none 0 0, .slice none 0 0, .slice none 0 0, .int .i64 0, .slice none 0 0, .int .i64 0, .int .i64 0, .int .i64 0, .bool false, .bool false, .int .i64 0, .int .i64 0, .int .i64 0, .int .i64 0, .int .i64 0, .int .i64 0, .int .i64 0]) (results_blk Try.results12 rfl Y9 Try.underlying39 rfl (by kernel_rfl)) rfl (OutMix.bad _ B9)
  · rw [inputR_fault k0]
    have hne : (ownC x oo != 0) = true := by simpa using k0
    generalize ownC x oo = r at *
    clear k0
    go_enter Try.func12, Try.ntmps12
    go_wp2_with fail
    refine K.mono ?_
    rintro e w' ⟨rfl, rfl⟩
    clear K
    generalize ((w.alloc (.cells #[.slice p0 x.xTape.length c0, .slice p1 x.xUsed.length c1, .int .i64 x.xSent, .slice p2 x.xHeard.length c2, .int .i64 x.xCheat.xWho, .int .i64 x.xCheat.xAt, .int .i64 x.xCheat.xBy, .bool x.xCheat.xCry, .bool x.xQuarrel.xSome, .int .i64 x.xQuarrel.xFrom, .int .i64 x.xQuarrel.xCheck, .int .i64 x.xQuarrel.xTo, .int .i64 x.xQuarrel.xTold, .int .i64 x.xQuarrel.xHeard, .int .i64 x.xQuarrel.xOther, .int .i64 x.xQuarrel.xVowed] 33)).alloc (.cells #[.int .i64 0, .int .i64 0, .slice none 0 0, .slice none 0 0, .slice none 0 0, .int .i64 0, .slice none 0 0, .int .i64 0, .int .i64 0, .int .i64 0, .bool false, .bool false, .int .i64 0, .int .i64 0, .int .i64 0, .int .i64 0, .int .i64 0, .int .i64 0, .int .i64 0] 39)) = w1 at *
    have sz1 : w.heap.size + 2 ≤ w1.heap.size := by rw [sz0]; exact Nat.le_refl _
    go_wp2_with fail
    refine (spec_l5Bad _ _).mono ?_
    rintro e w8 ⟨rfl, hb8⟩
    replace Y0 := Y0.keep hb8
    replace B0 : Below w.heap.size w w8 := B0.trans (hb8.mono B0.size)
    go_wp2_with (refine wpList_store_blk rfl 39 _ _ rfl (w.heap.size + 1) (#[.int .i64 r, .int .i64 0, .slice none 0 0, .slice none 0 0, .slice none 0 0, .int .i64 0, .slice none 0 0, .int .i64 0, .int .i64 0, .int .i64 0, .bool false, .bool false, .int .i64 0, .int .i64 0, .int .i64 0, .int .i64 0, .int .i64 0, .int .i64 0, .int .i64 0]) rfl rfl Y0 rfl (by kernel_rfl) (by kernel_rfl) ?_; intro w9 Y9 O9)
    have B9 : Below w.heap.size w w9 := B0.trans (O9.toBelow B0.size (by simp))
    exact bodyPost_ret (v := .agg #[.int .i64 r, .int .i64 0, .slice none 0 0, .slice none 0 0, .slice none 0 0, .int .i64 0, .slice none 0 0, .int .i64 0, .int .i64 0, .int .i64 0, .bool false, .bool false, .int .i64 0, .int .i64 0, .int .i64 0, .int .i64 0, .int .i64 0, .int .i64 0, .int .i64 0]) (results_blk Try.results12 rfl Y9 Try.underlying39 rfl (by kernel_rfl)) rfl (OutMix.bad _ B9)
end Go.Proofs.Ytbmemdgeohnpnac
