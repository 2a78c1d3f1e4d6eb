/-
  Contracts of chapter 4: joint messages, in the program and in its model.
-/
import Derived.Test.YtadppilldijijakJnL
namespace Go.Proofs.Ytadppilldijijak
open Go.ChangeShapes Go.WideShapes Go.ChangeAt Go.RowKit
set_option linter.unusedVariables false

/-- what all ask that tell something -/
def quietC (x : MNet) : Int := if netC x = 0 then (if x.xQuarrel.xSome = true then 6 else 0) else netC x
set_option maxHeartbeats 4000000 in
set_option maxRecDepth 100000 in
theorem impl_quietFault (v : Value) (x : MNet) (w : World) (hv : RdNet w v x) :
    Calls Try.prog 43 #[v] w fun e w' => e = .returned (.int .i64 (quietC x)) ∧ Below w.heap.size w w' := by
  obtain ⟨p0, c0, p1, c1, p2, c2, rfl, h0, h1, h2⟩ := hv
  have X0 : Blk (w.alloc (.cells #[.slice p0 x.xTape.length c0, .slice p1 x.xUsed.length c1, .int .i64 x.xSent, .slice p2 x.xHeard.length c2, .int .i64 x.xCheat.xWho, .int .i64 x.xCheat.xAt, .int .i64 x.xCheat.xBy, .bool x.xCheat.xCry, .bool x.xQuarrel.xSome, .int .i64 x.xQuarrel.xFrom, .int .i64 x.xQuarrel.xCheck, .int .i64 x.xQuarrel.xTo, .int .i64 x.xQuarrel.xTold, .int .i64 x.xQuarrel.xHeard, .int .i64 x.xQuarrel.xOther, .int .i64 x.xQuarrel.xVowed] 37)) w.heap.size 37 #[.slice p0 x.xTape.length c0, .slice p1 x.xUsed.length c1, .int .i64 x.xSent, .slice p2 x.xHeard.length c2, .int .i64 x.xCheat.xWho, .int .i64 x.xCheat.xAt, .int .i64 x.xCheat.xBy, .bool x.xCheat.xCry, .bool x.xQuarrel.xSome, .int .i64 x.xQuarrel.xFrom, .int .i64 x.xQuarrel.xCheck, .int .i64 x.xQuarrel.xTo, .int .i64 x.xQuarrel.xTold, .int .i64 x.xQuarrel.xHeard, .int .i64 x.xQuarrel.xOther, .int .i64 x.xQuarrel.xVowed] := Blk.new w _ _
  have B0 : Below w.heap.size w (w.alloc (.cells #[.slice p0 x.xTape.length c0, .slice p1 x.xUsed.length c1, .int .i64 x.xSent, .slice p2 x.xHeard.length c2, .int .i64 x.xCheat.xWho, .int .i64 x.xCheat.xAt, .int .i64 x.xCheat.xBy, .bool x.xCheat.xCry, .bool x.xQuarrel.xSome, .int .i64 x.xQuarrel.xFrom, .int .i64 x.xQuarrel.xCheck, .int .i64 x.xQuarrel.xTo, .int .i64 x.xQuarrel.xTold, .int .i64 x.xQuarrel.xHeard, .int .i64 x.xQuarrel.xOther, .int .i64 x.xQuarrel.xVowed] 37)) := (Below.refl _ _).alloc (Nat.le_refl _) _
  have K := fun W h => impl_NetFault (.agg #[.slice p0 x.xTape.length c0, .slice p1 x.xUsed.length c1, .int .i64 x.xSent, .slice p2 x.xHeard.length c2, .int .i64 x.xCheat.xWho, .int .i64 x.xCheat.xAt, .int .i64 x.xCheat.xBy, .bool x.xCheat.xCry, .bool x.xQuarrel.xSome, .int .i64 x.xQuarrel.xFrom, .int .i64 x.xQuarrel.xCheck, .int .i64 x.xQuarrel.xTo, .int .i64 x.xQuarrel.xTold, .int .i64 x.xQuarrel.xHeard, .int .i64 x.xQuarrel.xOther, .int .i64 x.xQuarrel.xVowed]) x W h
  by_cases k0 : netC x = 0
  · rw [k0] at K
    by_cases k1 : x.xQuarrel.xSome = true
    · have HT : Hid (x.xQuarrel.xSome = true) := k1
      rw [show quietC x = 6 by unfold quietC; rw [if_pos k0, if_pos k1]]
      clear k0 k1
      go_enter Try.func43, Try.ntmps43
      go_wp2_with (refine wpList_load_blk rfl 37 _ rfl w.heap.size rfl X0 Try.underlying37 rfl (by kernel_rfl) ?_)
      refine (K _ ⟨p0, c0, p1, c1, p2, c2, rfl, h0.below B0, h1.below B0, h2.below B0⟩).mono ?_
      rintro e w1 ⟨rfl, hb1⟩
      replace X0 := X0.keep hb1
      replace B0 : Below w.heap.size w w1 := B0.trans (hb1.mono B0.size)
      have xa := X0.at.1
      have xl := X0.lt
      rw [show (#[.slice p0 x.xTape.length c0, .slice p1 x.xUsed.length c1, .int .i64 x.xSent, .slice p2 x.xHeard.length c2, .int .i64 x.xCheat.xWho, .int .i64 x.xCheat.xAt, .int .i64 x.xCheat.xBy, .bool x.xCheat.xCry, .bool x.xQuarrel.xSome, .int .i64 x.xQuarrel.xFrom, .int .i64 x.xQuarrel.xCheck, .int .i64 x.xQuarrel.xTo, .int .i64 x.xQuarrel.xTold, .int .i64 x.xQuarrel.xHeard, .int .i64 x.xQuarrel.xOther, .int .i64 x.xQuarrel.xVowed] : Array Value) = #[.slice p0 x.xTape.length c0, .slice p1 x.xUsed.length c1, .int .i64 x.xSent, .slice p2 x.xHeard.length c2, .int .i64 x.xCheat.xWho, .int .i64 x.xCheat.xAt, .int .i64 x.xCheat.xBy, .bool x.xCheat.xCry, .bool true, .int .i64 x.xQuarrel.xFrom, .int .i64 x.xQuarrel.xCheck, .int .i64 x.xQuarrel.xTo, .int .i64 x.xQuarrel.xTold, .int .i64 x.xQuarrel.xHeard, .int .i64 x.xQuarrel.xOther, .int .i64 x.xQuarrel.xVowed] by rw [HT.out]] at xa
      go_wp2
      go_ret
      exact ⟨rfl, B0⟩
    · have HT : Hid (x.xQuarrel.xSome = false) := by show _ = _; simpa using k1
      rw [show quietC x = 0 by unfold quietC; rw [if_pos k0, if_neg k1]]
      clear k0 k1
      go_enter Try.func43, Try.ntmps43
      go_wp2_with (refine wpList_load_blk rfl 37 _ rfl w.heap.size rfl X0 Try.underlying37 rfl (by kernel_rfl) ?_)
      refine (K _ ⟨p0, c0, p1, c1, p2, c2, rfl, h0.below B0, h1.below B0, h2.below B0⟩).mono ?_
      rintro e w1 ⟨rfl, hb1⟩
      replace X0 := X0.keep hb1
      replace B0 : Below w.heap.size w w1 := B0.trans (hb1.mono B0.size)
      have xa := X0.at.1
      have xl := X0.lt
      rw [show (#[.slice p0 x.xTape.length c0, .slice p1 x.xUsed.length c1, .int .i64 x.xSent, .slice p2 x.xHeard.length c2, .int .i64 x.xCheat.xWho, .int .i64 x.xCheat.xAt, .int .i64 x.xCheat.xBy, .bool x.xCheat.xCry, .bool x.xQuarrel.xSome, .int .i64 x.xQuarrel.xFrom, .int .i64 x.xQuarrel.xCheck, .int .i64 x.xQuarrel.xTo, .int .i64 x.xQuarrel.xTold, .int .i64 x.xQuarrel.xHeard, .int .i64 x.xQuarrel.xOther, .int .i64 x.xQuarrel.xVowed] : Array Value) = #[.slice p0 x.xTape.length c0, .slice p1 x.xUsed.length c1, .int .i64 x.xSent, .slice p2 x.xHeard.length c2, .int .i64 x.xCheat.xWho, .int .i64 x.xCheat.xAt, .int .i64 x.xCheat.xBy, .bool x.xCheat.xCry, .bool false, .int .i64 x.xQuarrel.xFrom, .int .i64 x.xQuarrel.xCheck, .int .i64 x.xQuarrel.xTo, .int .i64 x.xQuarrel.xTold, .int .i64 x.xQuarrel.xHeard, .int .i64 x.xQuarrel.xOther, .int .i64 x.xQuarrel.xVowed] by rw [HT.out]] at xa
      go_wp2
      go_ret
      exact ⟨rfl, B0⟩
  · rw [show quietC x = netC x from if_neg k0]
    have hne : (netC x != 0) = true := by simpa using k0
    clear k0
    generalize netC x = r at *
    go_enter Try.func43, Try.ntmps43
    go_wp2_with (refine wpList_load_blk rfl 37 _ rfl w.heap.size rfl X0 Try.underlying37 rfl (by kernel_rfl) ?_)
    refine (K _ ⟨p0, c0, p1, c1, p2, c2, rfl, h0.below B0, h1.below B0, h2.below B0⟩).mono ?_
    rintro e w1 ⟨rfl, hb1⟩
    replace X0 := X0.keep hb1
    replace B0 : Below w.heap.size w w1 := B0.trans (hb1.mono B0.size)
    go_wp2
    go_ret
    exact ⟨rfl, B0⟩
set_option maxHeartbeats 16000000 in
set_option maxRecDepth 100000 in
theorem impl_SendJoint (v : Value) (x : MNet) (q fm ck tt a b : Int) (w : World) (hv : RdNet w v x) (hx : Fit x) :
    Calls Try.prog 11 #[v, .int .i64 q, .int .i64 fm, .int .i64 ck, .int .i64 tt, .int .i64 a, .int .i64 b] w fun e w' => OutNetR w w' (sendR x q fm ck tt a b) e := by
  obtain ⟨p0, c0, p1, c1, p2, c2, rfl, h0, h1, h2⟩ := hv
  have B0 : Below w.heap.size w ((w.alloc (.cells #[.slice p0 x.xTape.length c0, .slice p1 x.xUsed.length c1, .int .i64 x.xSent, .slice p2 x.xHeard.length c2, .int .i64 x.xCheat.xWho, .int .i64 x.xCheat.xAt, .int .i64 x.xCheat.xBy, .bool x.xCheat.xCry, .bool x.xQuarrel.xSome, .int .i64 x.xQuarrel.xFrom, .int .i64 x.xQuarrel.xCheck, .int .i64 x.xQuarrel.xTo, .int .i64 x.xQuarrel.xTold, .int .i64 x.xQuarrel.xHeard, .int .i64 x.xQuarrel.xOther, .int .i64 x.xQuarrel.xVowed] 37)).alloc (.cells #[.int .i64 0, .int .i64 0, .slice none 0 0, .slice none 0 0, .int .i64 0, .slice none 0 0, .int .i64 0, .int .i64 0, .int .i64 0, .bool false, .bool false, .int .i64 0, .int .i64 0, .int .i64 0, .int .i64 0, .int .i64 0, .int .i64 0, .int .i64 0] 39)) := (by repeat (first | exact Below.refl _ _ | refine Below.drew ?_ | refine below_drewN ?_ _ | refine Below.setCell ?_ (by first | omega | (simp; done) | (simp; omega)) _ | refine Below.alloc ?_ (by first | omega | (simp; done) | (simp; omega)) _))
  have X0 : Blk ((w.alloc (.cells #[.slice p0 x.xTape.length c0, .slice p1 x.xUsed.length c1, .int .i64 x.xSent, .slice p2 x.xHeard.length c2, .int .i64 x.xCheat.xWho, .int .i64 x.xCheat.xAt, .int .i64 x.xCheat.xBy, .bool x.xCheat.xCry, .bool x.xQuarrel.xSome, .int .i64 x.xQuarrel.xFrom, .int .i64 x.xQuarrel.xCheck, .int .i64 x.xQuarrel.xTo, .int .i64 x.xQuarrel.xTold, .int .i64 x.xQuarrel.xHeard, .int .i64 x.xQuarrel.xOther, .int .i64 x.xQuarrel.xVowed] 37)).alloc (.cells #[.int .i64 0, .int .i64 0, .slice none 0 0, .slice none 0 0, .int .i64 0, .slice none 0 0, .int .i64 0, .int .i64 0, .int .i64 0, .bool false, .bool false, .int .i64 0, .int .i64 0, .int .i64 0, .int .i64 0, .int .i64 0, .int .i64 0, .int .i64 0] 39)) w.heap.size 37 #[.slice p0 x.xTape.length c0, .slice p1 x.xUsed.length c1, .int .i64 x.xSent, .slice p2 x.xHeard.length c2, .int .i64 x.xCheat.xWho, .int .i64 x.xCheat.xAt, .int .i64 x.xCheat.xBy, .bool x.xCheat.xCry, .bool x.xQuarrel.xSome, .int .i64 x.xQuarrel.xFrom, .int .i64 x.xQuarrel.xCheck, .int .i64 x.xQuarrel.xTo, .int .i64 x.xQuarrel.xTold, .int .i64 x.xQuarrel.xHeard, .int .i64 x.xQuarrel.xOther, .int .i64 x.xQuarrel.xVowed] := (Blk.new w _ _).alloc _
  have Y0 : Blk ((w.alloc (.cells #[.slice p0 x.xTape.length c0, .slice p1 x.xUsed.length c1, .int .i64 x.xSent, .slice p2 x.xHeard.length c2, .int .i64 x.xCheat.xWho, .int .i64 x.xCheat.xAt, .int .i64 x.xCheat.xBy, .bool x.xCheat.xCry, .bool x.xQuarrel.xSome, .int .i64 x.xQuarrel.xFrom, .int .i64 x.xQuarrel.xCheck, .int .i64 x.xQuarrel.xTo, .int .i64 x.xQuarrel.xTold, .int .i64 x.xQuarrel.xHeard, .int .i64 x.xQuarrel.xOther, .int .i64 x.xQuarrel.xVowed] 37)).alloc (.cells #[.int .i64 0, .int .i64 0, .slice none 0 0, .slice none 0 0, .int .i64 0, .slice none 0 0, .int .i64 0, .int .i64 0, .int .i64 0, .bool false, .bool false, .int .i64 0, .int .i64 0, .int .i64 0, .int .i64 0, .int .i64 0, .int .i64 0, .int .i64 0] 39)) (w.heap.size + 1) 39 #[.int .i64 0, .int .i64 0, .slice none 0 0, .slice none 0 0, .int .i64 0, .slice none 0 0, .int .i64 0, .int .i64 0, .int .i64 0, .bool false, .bool false, .int .i64 0, .int .i64 0, .int .i64 0, .int .i64 0, .int .i64 0, .int .i64 0, .int .i64 0] := by simpa using Blk.new (w.alloc (.cells #[.slice p0 x.xTape.length c0, .slice p1 x.xUsed.length c1, .int .i64 x.xSent, .slice p2 x.xHeard.length c2, .int .i64 x.xCheat.xWho, .int .i64 x.xCheat.xAt, .int .i64 x.xCheat.xBy, .bool x.xCheat.xCry, .bool x.xQuarrel.xSome, .int .i64 x.xQuarrel.xFrom, .int .i64 x.xQuarrel.xCheck, .int .i64 x.xQuarrel.xTo, .int .i64 x.xQuarrel.xTold, .int .i64 x.xQuarrel.xHeard, .int .i64 x.xQuarrel.xOther, .int .i64 x.xQuarrel.xVowed] 37)) 39 #[.int .i64 0, .int .i64 0, .slice none 0 0, .slice none 0 0, .int .i64 0, .slice none 0 0, .int .i64 0, .int .i64 0, .int .i64 0, .bool false, .bool false, .int .i64 0, .int .i64 0, .int .i64 0, .int .i64 0, .int .i64 0, .int .i64 0, .int .i64 0]
  have sz0 : ((w.alloc (.cells #[.slice p0 x.xTape.length c0, .slice p1 x.xUsed.length c1, .int .i64 x.xSent, .slice p2 x.xHeard.length c2, .int .i64 x.xCheat.xWho, .int .i64 x.xCheat.xAt, .int .i64 x.xCheat.xBy, .bool x.xCheat.xCry, .bool x.xQuarrel.xSome, .int .i64 x.xQuarrel.xFrom, .int .i64 x.xQuarrel.xCheck, .int .i64 x.xQuarrel.xTo, .int .i64 x.xQuarrel.xTold, .int .i64 x.xQuarrel.xHeard, .int .i64 x.xQuarrel.xOther, .int .i64 x.xQuarrel.xVowed] 37)).alloc (.cells #[.int .i64 0, .int .i64 0, .slice none 0 0, .slice none 0 0, .int .i64 0, .slice none 0 0, .int .i64 0, .int .i64 0, .int .i64 0, .bool false, .bool false, .int .i64 0, .int .i64 0, .int .i64 0, .int .i64 0, .int .i64 0, .int .i64 0, .int .i64 0] 39)).heap.size = w.heap.size + 2 := by simp
  have K := fun W h => impl_quietFault (.agg #[.slice p0 x.xTape.length c0, .slice p1 x.xUsed.length c1, .int .i64 x.xSent, .slice p2 x.xHeard.length c2, .int .i64 x.xCheat.xWho, .int .i64 x.xCheat.xAt, .int .i64 x.xCheat.xBy, .bool x.xCheat.xCry, .bool x.xQuarrel.xSome, .int .i64 x.xQuarrel.xFrom, .int .i64 x.xQuarrel.xCheck, .int .i64 x.xQuarrel.xTo, .int .i64 x.xQuarrel.xTold, .int .i64 x.xQuarrel.xHeard, .int .i64 x.xQuarrel.xOther, .int .i64 x.xQuarrel.xVowed]) x W h
  by_cases k0 : netC x = 0
  · by_cases hsome : x.xQuarrel.xSome = true
    · rw [sendR_quarrel _ _ _ _ _ _ k0 hsome]
      have HT : Hid (x.xQuarrel.xSome = true) := hsome
      rw [show quietC x = 6 by unfold quietC; rw [if_pos k0, if_pos hsome]] at K
      clear k0 hsome
      go_enter Try.func11, Try.ntmps11
      go_wp2_with (refine wpList_load_blk rfl 37 _ rfl w.heap.size rfl X0 Try.underlying37 rfl (by kernel_rfl) ?_)
      refine (K _ ⟨p0, c0, p1, c1, p2, c2, rfl, h0.below B0, h1.below B0, h2.below B0⟩).mono ?_
      rintro e w1 ⟨rfl, hb1⟩
      replace X0 := X0.keep hb1
      replace Y0 := Y0.keep hb1
      replace B0 : Below w.heap.size w w1 := B0.trans (hb1.mono B0.size)
      have sz1 := hb1.size
      rw [sz0] at sz1
      clear hb1
      go_wp2_with (refine wpList_store_blk rfl 39 _ _ rfl (w.heap.size + 1) (#[.int .i64 6, .int .i64 0, .slice none 0 0, .slice none 0 0, .int .i64 0, .slice none 0 0, .int .i64 0, .int .i64 0, .int .i64 0, .bool false, .bool false, .int .i64 0, .int .i64 0, .int .i64 0, .int .i64 0, .int .i64 0, .int .i64 0, .int .i64 0]) rfl rfl Y0 rfl (by kernel_rfl) (by kernel_rfl) ?_; intro w9 Y9 O9)
      have B9 : Below w.heap.size w w9 := B0.trans (O9.toBelow B0.size (by simp))
      exact bodyPost_ret (v := .agg #[.int .i64 6, .int .i64 0, .slice none 0 0, .slice none 0 0, .int .i64 0, .slice none 0 0, .int .i64 0, .int .i64 0, .int .i64 0, .bool false, .bool false, .int .i64 0, .int .i64 0, .int .i64 0, .int .i64 0, .int .i64 0, .int .i64 0, .int .i64 0]) (results_blk Try.results11 rfl Y9 Try.underlying39 rfl (by kernel_rfl)) rfl (OutNetR.bad _ B9)
    · have hns := hsome
      have HT : Hid (x.xQuarrel.xSome = false) := by show _ = _; simpa using hns
      rw [show quietC x = 0 by unfold quietC; rw [if_pos k0, if_neg hsome]] at K
      clear hsome
      by_cases k1 : q = 2 ∨ q = 256
      · by_cases k2 : Three fm ck tt
        · by_cases k3 : 0 ≤ a ∧ a < q
          · by_cases k4 : 0 ≤ b ∧ b < q
            · rw [sendR_in k0 hns ⟨k1, k2, k3, k4⟩]
              obtain ⟨l, rfl⟩ := Int.eq_ofNat_of_zero_le k2.2.2.1.1
              obtain ⟨z0, z1, z2, z3⟩ := netC_zero k0
              have hs := ((listsB_iff x).1 z2).2.2
              have hy := (cheatC_zero z3).2.2
              have hl4 : l < 4 := by have := k2.2.2.1.2; omega
              have lt1 : l < x.xHeard.length := by omega
              have hrow := hx.r l
              have hH0 : 0 < x.xHeard.length := by omega
              have HU : Hid (sentN x q fm ck l a b = { x with xSent := x.xSent + 2, xHeard := x.xHeard.set l (x.xHeard.getD l [] ++ [uT x q fm a, vT x q ck b]), xQuarrel := quarN x q fm ck l a b }) := rfl
              clear z0 z1 z2 z3 k0 hns
              go_enter Try.func11, Try.ntmps11
              go_wp2_with (refine wpList_load_blk rfl 37 _ rfl w.heap.size rfl X0 Try.underlying37 rfl (by kernel_rfl) ?_)
              refine (K _ ⟨p0, c0, p1, c1, p2, c2, rfl, h0.below B0, h1.below B0, h2.below B0⟩).mono ?_
              rintro e w1 ⟨rfl, hb1⟩
              replace X0 := X0.keep hb1
              replace Y0 := Y0.keep hb1
              replace B0 : Below w.heap.size w w1 := B0.trans (hb1.mono B0.size)
              have sz1 := hb1.size
              rw [sz0] at sz1
              clear hb1
              go_wp2_with fail
              refine (impl_isRing_yes _ _ k1).mono ?_
              rintro e w' ⟨rfl, rfl⟩
              go_wp2_with fail
              refine (impl_areThree_yes _ _ _ _ k2).mono ?_
              rintro e w' ⟨rfl, rfl⟩
              go_wp2_with fail
              refine (impl_isElement_yes _ _ _ k3.1 k3.2).mono ?_
              rintro e w' ⟨rfl, rfl⟩
              go_wp2_with fail
              refine (impl_isElement_yes _ _ _ k4.1 k4.2).mono ?_
              rintro e w' ⟨rfl, rfl⟩
              go_wp2_with (refine wpList_load_blk rfl 37 _ rfl w.heap.size rfl X0 Try.underlying37 rfl (by kernel_rfl) ?_)
              refine (impl_copyOfNetT _ x _ ⟨p0, c0, p1, c1, p2, c2, rfl, h0.below B0, h1.below B0, h2.below B0⟩ hx).mono ?_
              rintro e w1b ⟨q0, d0, q1, d1, q2, d2, b0, b1, b2, rfl, T1, U1, H1, j01, j02, j12, f0, f1, f2, hb1⟩
              obtain ⟨gH, d2b, eg⟩ : ∃ gH d2b, Value.slice q2 x.xHeard.length d2 = .slice (some ⟨gH, 0, none⟩) x.xHeard.length d2b := by
                obtain ⟨vs, bo, bi, g1, g2, rfl, g3⟩ := H1
                obtain ⟨g, c, rfl, eg, -, -⟩ := Own.shape g1 hH0
                exact ⟨g, c, eg⟩
              simp only [Value.slice.injEq, true_and] at eg
              obtain ⟨rfl, rfl⟩ := eg
              replace f0 := fun y hy => Nat.le_trans sz1 (f0 y hy)
              replace f1 := fun y hy => Nat.le_trans sz1 (f1 y hy)
              replace f2 := fun y hy => Nat.le_trans sz1 (f2 y hy)
              replace Y0 := Y0.keep hb1
              replace B0 : Below w.heap.size w w1b := B0.trans (hb1.mono B0.size)
              replace sz1 := Nat.le_trans sz1 hb1.size
              clear X0 hb1 sz0 h0 h1 h2
              have Zn := Blk.new w1b 37 #[.slice none 0 0, .slice none 0 0, .int .i64 0, .slice none 0 0, .int .i64 0, .int .i64 0, .int .i64 0, .bool false, .bool false, .int .i64 0, .int .i64 0, .int .i64 0, .int .i64 0, .int .i64 0, .int .i64 0, .int .i64 0]
              go_wp2_with (refine wpList_store_blk rfl 37 _ _ rfl w1b.heap.size (#[.slice q0 x.xTape.length d0, .slice q1 x.xUsed.length d1, .int .i64 x.xSent, .slice (some ⟨gH, 0, none⟩) x.xHeard.length d2, .int .i64 x.xCheat.xWho, .int .i64 x.xCheat.xAt, .int .i64 x.xCheat.xBy, .bool x.xCheat.xCry, .bool x.xQuarrel.xSome, .int .i64 x.xQuarrel.xFrom, .int .i64 x.xQuarrel.xCheck, .int .i64 x.xQuarrel.xTo, .int .i64 x.xQuarrel.xTold, .int .i64 x.xQuarrel.xHeard, .int .i64 x.xQuarrel.xOther, .int .i64 x.xQuarrel.xVowed]) rfl rfl Zn rfl (by kernel_rfl) (by kernel_rfl) ?_; intro w2 Z2 O2)
              have O2' : ∀ y, y < w1b.heap.size → y ∉ [w1b.heap.size] := fun y hy hm => by simp at hm; omega
              have Y2 := (Y0.alloc (.cells #[.slice none 0 0, .slice none 0 0, .int .i64 0, .slice none 0 0, .int .i64 0, .int .i64 0, .int .i64 0, .bool false, .bool false, .int .i64 0, .int .i64 0, .int .i64 0, .int .i64 0, .int .i64 0, .int .i64 0, .int .i64 0] 37)).off O2 (O2' _ Y0.lt)
              have T2 := (T1.alloc (.cells #[.slice none 0 0, .slice none 0 0, .int .i64 0, .slice none 0 0, .int .i64 0, .int .i64 0, .int .i64 0, .bool false, .bool false, .int .i64 0, .int .i64 0, .int .i64 0, .int .i64 0, .int .i64 0, .int .i64 0, .int .i64 0] 37)).off O2 (fun y hy => O2' y (T1.lt y hy))
              have U2 := (Ints.alloc U1 (.cells #[.slice none 0 0, .slice none 0 0, .int .i64 0, .slice none 0 0, .int .i64 0, .int .i64 0, .int .i64 0, .bool false, .bool false, .int .i64 0, .int .i64 0, .int .i64 0, .int .i64 0, .int .i64 0, .int .i64 0, .int .i64 0] 37)).off O2 (fun y hy => O2' y (U1.lt y hy))
              have H2 := (H1.alloc (.cells #[.slice none 0 0, .slice none 0 0, .int .i64 0, .slice none 0 0, .int .i64 0, .int .i64 0, .int .i64 0, .bool false, .bool false, .int .i64 0, .int .i64 0, .int .i64 0, .int .i64 0, .int .i64 0, .int .i64 0, .int .i64 0] 37)).off O2 (fun y hy => O2' y (H1.lt y hy))
              have B2 : Below w.heap.size w w2 := (B0.alloc B0.size _).trans (O2.toBelow (by have := B0.size; simp; omega) (by have := B0.size; simp; omega))
              have nb1 : w1b.heap.size ∉ b1 := fun hm => Nat.lt_irrefl _ (U1.lt _ hm)
              have ltY := Y0.lt
              have nbH : w1b.heap.size ∉ b2 := fun hm => Nat.lt_irrefl _ (H1.lt _ hm)
              have nbT : w1b.heap.size ∉ b0 := fun hm => Nat.lt_irrefl _ (T1.lt _ hm)
              clear Y0 B0 T1 U1 H1 O2 Zn
              generalize w1b.heap.size = g at *
              have KT := impl_tell g x q0 q1 gH d0 d1 d2 b2 q fm ck l a b w2 Z2 H2 nbH (by omega) k1 k2 k3 k4 hy lt1 (by omega)
              go_wp2_with fail
              refine KT.mono ?_
              rintro e w3 ⟨rfl, cs, Z3, M3, hcs, O3⟩
              have Y3 := Y2.off O3 (fun hm => by rcases List.mem_cons.1 hm with h | h; (omega); (have := f2 _ h; omega))
              have ltT := T2.lt
              have ltU := U2.lt
              have T3 := T2.off O3 (fun y hy hm => by rcases List.mem_cons.1 hm with h | h; (exact nbT (h ▸ hy)); (exact j02 y hy h))
              have U3 := U2.off O3 (fun y hy hm => by rcases List.mem_cons.1 hm with h | h; (exact nb1 (h ▸ hy)); (exact j12 y hy h))
              have B3 : Below w.heap.size w w3 := B2.trans (O3.toBelow B2.size (fun y hy => by rcases List.mem_cons.1 hy with h | h; (omega); (have := f2 _ h; omega)))
              have j02b : Dj b0 cs := fun y hy hm => (hcs y hm).elim (j02 y hy) (fun h => by have := ltT y hy; omega)
              have j12b : Dj b1 cs := fun y hy hm => (hcs y hm).elim (j12 y hy) (fun h => by have := ltU y hy; omega)
              have fcs : ∀ y ∈ cs, w.heap.size + 2 ≤ y := fun y hy => (hcs y hy).elim (f2 y) (fun h => by have := Z2.lt; omega)
              clear Z2 Y2 T2 U2 H2 B2 O3 KT ltT ltU
              generalize hrr : uT x q fm a = r at *
              have HR : Hid (uT x q fm a = r) := hrr
              generalize hzz : quarN x q fm ck l a b = zz at *
              clear hrr hzz
              go_wp2_with (first | (refine wpList_load_blk rfl 37 _ rfl g rfl Z3 Try.underlying37 rfl (by kernel_rfl) ?_) | (refine wpList_store_blk rfl 39 _ _ rfl (w.heap.size + 1) (#[.int .i64 0, .int .i64 r, .slice q0 x.xTape.length d0, .slice q1 x.xUsed.length d1, .int .i64 (x.xSent + 2), .slice (some ⟨gH, 0, none⟩) x.xHeard.length d2, .int .i64 x.xCheat.xWho, .int .i64 x.xCheat.xAt, .int .i64 x.xCheat.xBy, .bool x.xCheat.xCry, .bool zz.xSome, .int .i64 zz.xFrom, .int .i64 zz.xCheck, .int .i64 zz.xTo, .int .i64 zz.xTold, .int .i64 zz.xHeard, .int .i64 zz.xOther, .int .i64 zz.xVowed]) rfl rfl Y3 rfl (by kernel_rfl) (by kernel_rfl) ?_; intro w4 Y4 O4))
              have B4 : Below w.heap.size w w4 := B3.trans (O4.toBelow B3.size (by simp))
              refine bodyPost_ret (v := .agg #[.int .i64 0, .int .i64 r, .slice q0 x.xTape.length d0, .slice q1 x.xUsed.length d1, .int .i64 (x.xSent + 2), .slice (some ⟨gH, 0, none⟩) x.xHeard.length d2, .int .i64 x.xCheat.xWho, .int .i64 x.xCheat.xAt, .int .i64 x.xCheat.xBy, .bool x.xCheat.xCry, .bool zz.xSome, .int .i64 zz.xFrom, .int .i64 zz.xCheck, .int .i64 zz.xTo, .int .i64 zz.xTold, .int .i64 zz.xHeard, .int .i64 zz.xOther, .int .i64 zz.xVowed]) (results_blk Try.results11 rfl Y4 Try.underlying39 rfl (by kernel_rfl)) rfl ⟨_, b0, b1, cs, rfl, ?_, fun y hy => by have := f0 y hy; omega, fun y hy => by have := f1 y hy; omega, fun y hy => by have := fcs y hy; omega, B4⟩
              rw [HU.out]
              exact ⟨q0, d0, q1, d1, some ⟨gH, 0, none⟩, d2, by simp [HR.out], T3.off O4 (fun y hy hm => by have := f0 y hy; simp at hm; omega), U3.off O4 (fun y hy hm => by have := f1 y hy; simp at hm; omega), by have := (M3.mat).off O4 (fun y hy hm => by have := fcs y hy; simp at hm; omega); simpa using this, j01, j02b, j12b⟩
            · rw [sendR_out k0 hns (fun h => k4 h.2.2.2)]
              clear k0 hns
              go_enter Try.func11, Try.ntmps11
              go_wp2_with (refine wpList_load_blk rfl 37 _ rfl w.heap.size rfl X0 Try.underlying37 rfl (by kernel_rfl) ?_)
              refine (K _ ⟨p0, c0, p1, c1, p2, c2, rfl, h0.below B0, h1.below B0, h2.below B0⟩).mono ?_
              rintro e w1 ⟨rfl, hb1⟩
              replace X0 := X0.keep hb1
              replace Y0 := Y0.keep hb1
              replace B0 : Below w.heap.size w w1 := B0.trans (hb1.mono B0.size)
              have sz1 := hb1.size
              rw [sz0] at sz1
              clear hb1
              go_wp2_with fail
              refine (impl_isRing_yes _ _ k1).mono ?_
              rintro e w' ⟨rfl, rfl⟩
              go_wp2_with fail
              refine (impl_areThree_yes _ _ _ _ k2).mono ?_
              rintro e w' ⟨rfl, rfl⟩
              go_wp2_with fail
              refine (impl_isElement_yes _ _ _ k3.1 k3.2).mono ?_
              rintro e w' ⟨rfl, rfl⟩
              go_wp2_with fail
              refine (impl_isElement_no _ _ _ (by omega)).mono ?_
              rintro e w' ⟨rfl, rfl⟩
              go_wp2_with (refine wpList_store_blk rfl 39 _ _ rfl (w.heap.size + 1) (#[.int .i64 3, .int .i64 0, .slice none 0 0, .slice none 0 0, .int .i64 0, .slice none 0 0, .int .i64 0, .int .i64 0, .int .i64 0, .bool false, .bool false, .int .i64 0, .int .i64 0, .int .i64 0, .int .i64 0, .int .i64 0, .int .i64 0, .int .i64 0]) rfl rfl Y0 rfl (by kernel_rfl) (by kernel_rfl) ?_; intro w9 Y9 O9)
              have B9 : Below w.heap.size w w9 := B0.trans (O9.toBelow B0.size (by simp))
              exact bodyPost_ret (v := .agg #[.int .i64 3, .int .i64 0, .slice none 0 0, .slice none 0 0, .int .i64 0, .slice none 0 0, .int .i64 0, .int .i64 0, .int .i64 0, .bool false, .bool false, .int .i64 0, .int .i64 0, .int .i64 0, .int .i64 0, .int .i64 0, .int .i64 0, .int .i64 0]) (results_blk Try.results11 rfl Y9 Try.underlying39 rfl (by kernel_rfl)) rfl (OutNetR.bad _ B9)
          · rw [sendR_out k0 hns (fun h => k3 h.2.2.1)]
            clear k0 hns
            go_enter Try.func11, Try.ntmps11
            go_wp2_with (refine wpList_load_blk rfl 37 _ rfl w.heap.size rfl X0 Try.underlying37 rfl (by kernel_rfl) ?_)
            refine (K _ ⟨p0, c0, p1, c1, p2, c2, rfl, h0.below B0, h1.below B0, h2.below B0⟩).mono ?_
            rintro e w1 ⟨rfl, hb1⟩
            replace X0 := X0.keep hb1
            replace Y0 := Y0.keep hb1
            replace B0 : Below w.heap.size w w1 := B0.trans (hb1.mono B0.size)
            have sz1 := hb1.size
            rw [sz0] at sz1
            clear hb1
            go_wp2_with fail
            refine (impl_isRing_yes _ _ k1).mono ?_
            rintro e w' ⟨rfl, rfl⟩
            go_wp2_with fail
            refine (impl_areThree_yes _ _ _ _ k2).mono ?_
            rintro e w' ⟨rfl, rfl⟩
            go_wp2_with fail
            refine (impl_isElement_no _ _ _ (by omega)).mono ?_
            rintro e w' ⟨rfl, rfl⟩
            go_wp2_with (refine wpList_store_blk rfl 39 _ _ rfl (w.heap.size + 1) (#[.int .i64 3, .int .i64 0, .slice none 0 0, .slice none 0 0, .int .i64 0, .slice none 0 0, .int .i64 0, .int .i64 0, .int .i64 0, .bool false, .bool false, .int .i64 0, .int .i64 0, .int .i64 0, .int .i64 0, .int .i64 0, .int .i64 0, .int .i64 0]) rfl rfl Y0 rfl (by kernel_rfl) (by kernel_rfl) ?_; intro w9 Y9 O9)
            have B9 : Below w.heap.size w w9 := B0.trans (O9.toBelow B0.size (by simp))
            exact bodyPost_ret (v := .agg #[.int .i64 3, .int .i64 0, .slice none 0 0, .slice none 0 0, .int .i64 0, .slice none 0 0, .int .i64 0, .int .i64 0, .int .i64 0, .bool false, .bool false, .int .i64 0, .int .i64 0, .int .i64 0, .int .i64 0, .int .i64 0, .int .i64 0, .int .i64 0]) (results_blk Try.results11 rfl Y9 Try.underlying39 rfl (by kernel_rfl)) rfl (OutNetR.bad _ B9)
        · rw [sendR_out k0 hns (fun h => k2 h.2.1)]
          clear k0 hns
          go_enter Try.func11, Try.ntmps11
          go_wp2_with (refine wpList_load_blk rfl 37 _ rfl w.heap.size rfl X0 Try.underlying37 rfl (by kernel_rfl) ?_)
          refine (K _ ⟨p0, c0, p1, c1, p2, c2, rfl, h0.below B0, h1.below B0, h2.below B0⟩).mono ?_
          rintro e w1 ⟨rfl, hb1⟩
          replace X0 := X0.keep hb1
          replace Y0 := Y0.keep hb1
          replace B0 : Below w.heap.size w w1 := B0.trans (hb1.mono B0.size)
          have sz1 := hb1.size
          rw [sz0] at sz1
          clear hb1
          go_wp2_with fail
          refine (impl_isRing_yes _ _ k1).mono ?_
          rintro e w' ⟨rfl, rfl⟩
          go_wp2_with fail
          refine (impl_areThree_no _ _ _ _ k2).mono ?_
          rintro e w' ⟨rfl, rfl⟩
          go_wp2_with (refine wpList_store_blk rfl 39 _ _ rfl (w.heap.size + 1) (#[.int .i64 3, .int .i64 0, .slice none 0 0, .slice none 0 0, .int .i64 0, .slice none 0 0, .int .i64 0, .int .i64 0, .int .i64 0, .bool false, .bool false, .int .i64 0, .int .i64 0, .int .i64 0, .int .i64 0, .int .i64 0, .int .i64 0, .int .i64 0]) rfl rfl Y0 rfl (by kernel_rfl) (by kernel_rfl) ?_; intro w9 Y9 O9)
          have B9 : Below w.heap.size w w9 := B0.trans (O9.toBelow B0.size (by simp))
          exact bodyPost_ret (v := .agg #[.int .i64 3, .int .i64 0, .slice none 0 0, .slice none 0 0, .int .i64 0, .slice none 0 0, .int .i64 0, .int .i64 0, .int .i64 0, .bool false, .bool false, .int .i64 0, .int .i64 0, .int .i64 0, .int .i64 0, .int .i64 0, .int .i64 0, .int .i64 0]) (results_blk Try.results11 rfl Y9 Try.underlying39 rfl (by kernel_rfl)) rfl (OutNetR.bad _ B9)
      · rw [sendR_out k0 hns (fun h => k1 h.1)]
        clear k0 hns
        go_enter Try.func11, Try.ntmps11
        go_wp2_with (refine wpList_load_blk rfl 37 _ rfl w.heap.size rfl X0 Try.underlying37 rfl (by kernel_rfl) ?_)
        refine (K _ ⟨p0, c0, p1, c1, p2, c2, rfl, h0.below B0, h1.below B0, h2.below B0⟩).mono ?_
        rintro e w1 ⟨rfl, hb1⟩
        replace X0 := X0.keep hb1
        replace Y0 := Y0.keep hb1
        replace B0 : Below w.heap.size w w1 := B0.trans (hb1.mono B0.size)
        have sz1 := hb1.size
        rw [sz0] at sz1
        clear hb1
        go_wp2_with fail
        refine (impl_isRing_no _ _ k1).mono ?_
        rintro e w' ⟨rfl, rfl⟩
        go_wp2_with (refine wpList_store_blk rfl 39 _ _ rfl (w.heap.size + 1) (#[.int .i64 3, .int .i64 0, .slice none 0 0, .slice none 0 0, .int .i64 0, .slice none 0 0, .int .i64 0, .int .i64 0, .int .i64 0, .bool false, .bool false, .int .i64 0, .int .i64 0, .int .i64 0, .int .i64 0, .int .i64 0, .int .i64 0, .int .i64 0]) rfl rfl Y0 rfl (by kernel_rfl) (by kernel_rfl) ?_; intro w9 Y9 O9)
        have B9 : Below w.heap.size w w9 := B0.trans (O9.toBelow B0.size (by simp))
        exact bodyPost_ret (v := .agg #[.int .i64 3, .int .i64 0, .slice none 0 0, .slice none 0 0, .int .i64 0, .slice none 0 0, .int .i64 0, .int .i64 0, .int .i64 0, .bool false, .bool false, .int .i64 0, .int .i64 0, .int .i64 0, .int .i64 0, .int .i64 0, .int .i64 0, .int .i64 0]) (results_blk Try.results11 rfl Y9 Try.underlying39 rfl (by kernel_rfl)) rfl (OutNetR.bad _ B9)
  · rw [sendR_fault _ _ _ _ _ _ k0]
    rw [show quietC x = netC x from if_neg k0] at K
    have hne : (netC x != 0) = true := by simpa using k0
    clear k0
    generalize hr : netC x = r at *
    clear hr
    go_enter Try.func11, Try.ntmps11
    go_wp2_with (refine wpList_load_blk rfl 37 _ rfl w.heap.size rfl X0 Try.underlying37 rfl (by kernel_rfl) ?_)
    refine (K _ ⟨p0, c0, p1, c1, p2, c2, rfl, h0.below B0, h1.below B0, h2.below B0⟩).mono ?_
    rintro e w1 ⟨rfl, hb1⟩
    replace X0 := X0.keep hb1
    replace Y0 := Y0.keep hb1
    replace B0 : Below w.heap.size w w1 := B0.trans (hb1.mono B0.size)
    have sz1 := hb1.size
    rw [sz0] at sz1
    clear hb1
    go_wp2_with (refine wpList_store_blk rfl 39 _ _ rfl (w.heap.size + 1) (#[.int .i64 r, .int .i64 0, .slice none 0 0, .slice none 0 0, .int .i64 0, .slice none 0 0, .int .i64 0, .int .i64 0, .int .i64 0, .bool false, .bool false, .int .i64 0, .int .i64 0, .int .i64 0, .int .i64 0, .int .i64 0, .int .i64 0, .int .i64 0]) rfl rfl Y0 rfl (by kernel_rfl) (by kernel_rfl) ?_; intro w9 Y9 O9)
    have B9 : Below w.heap.size w w9 := B0.trans (O9.toBelow B0.size (by simp))
    exact bodyPost_ret (v := .agg #[.int .i64 r, .int .i64 0, .slice none 0 0, .slice none 0 0, .int .i64 0, .slice none 0 0, .int .i64 0, .int .i64 0, .int .i64 0, .bool false, .bool false, .int .i64 0, .int .i64 0, .int .i64 0, .int .i64 0, .int .i64 0, .int .i64 0, .int .i64 0]) (results_blk Try.results11 rfl Y9 Try.underlying39 rfl (by kernel_rfl)) rfl (OutNetR.bad _ B9)
set_option maxHeartbeats 16000000 in
set_option maxRecDepth 100000 in
theorem spec_SendJoint (v : Value) (x : MNet) (q fm ck tt a b : Int) (w : World) (hv : RdNet w v x) (hx : Fit x) :
    Calls Try.prog 9 #[v, .int .i64 q, .int .i64 fm, .int .i64 ck, .int .i64 tt, .int .i64 a, .int .i64 b] w fun e w' => OutNetR w w' (sendR x q fm ck tt a b) e := by
  obtain ⟨p0, c0, p1, c1, p2, c2, rfl, h0, h1, h2⟩ := hv
  have B0 : Below w.heap.size w ((w.alloc (.cells #[.slice p0 x.xTape.length c0, .slice p1 x.xUsed.length c1, .int .i64 x.xSent, .slice p2 x.xHeard.length c2, .int .i64 x.xCheat.xWho, .int .i64 x.xCheat.xAt, .int .i64 x.xCheat.xBy, .bool x.xCheat.xCry, .bool x.xQuarrel.xSome, .int .i64 x.xQuarrel.xFrom, .int .i64 x.xQuarrel.xCheck, .int .i64 x.xQuarrel.xTo, .int .i64 x.xQuarrel.xTold, .int .i64 x.xQuarrel.xHeard, .int .i64 x.xQuarrel.xOther, .int .i64 x.xQuarrel.xVowed] 37)).alloc (.cells #[.int .i64 0, .int .i64 0, .slice none 0 0, .slice none 0 0, .int .i64 0, .slice none 0 0, .int .i64 0, .int .i64 0, .int .i64 0, .bool false, .bool false, .int .i64 0, .int .i64 0, .int .i64 0, .int .i64 0, .int .i64 0, .int .i64 0, .int .i64 0] 39)) := (by repeat (first | exact Below.refl _ _ | refine Below.drew ?_ | refine below_drewN ?_ _ | refine Below.setCell ?_ (by first | omega | (simp; done) | (simp; omega)) _ | refine Below.alloc ?_ (by first | omega | (simp; done) | (simp; omega)) _))
  have X0 : Blk ((w.alloc (.cells #[.slice p0 x.xTape.length c0, .slice p1 x.xUsed.length c1, .int .i64 x.xSent, .slice p2 x.xHeard.length c2, .int .i64 x.xCheat.xWho, .int .i64 x.xCheat.xAt, .int .i64 x.xCheat.xBy, .bool x.xCheat.xCry, .bool x.xQuarrel.xSome, .int .i64 x.xQuarrel.xFrom, .int .i64 x.xQuarrel.xCheck, .int .i64 x.xQuarrel.xTo, .int .i64 x.xQuarrel.xTold, .int .i64 x.xQuarrel.xHeard, .int .i64 x.xQuarrel.xOther, .int .i64 x.xQuarrel.xVowed] 37)).alloc (.cells #[.int .i64 0, .int .i64 0, .slice none 0 0, .slice none 0 0, .int .i64 0, .slice none 0 0, .int .i64 0, .int .i64 0, .int .i64 0, .bool false, .bool false, .int .i64 0, .int .i64 0, .int .i64 0, .int .i64 0, .int .i64 0, .int .i64 0, .int .i64 0] 39)) w.heap.size 37 #[.slice p0 x.xTape.length c0, .slice p1 x.xUsed.length c1, .int .i64 x.xSent, .slice p2 x.xHeard.length c2, .int .i64 x.xCheat.xWho, .int .i64 x.xCheat.xAt, .int .i64 x.xCheat.xBy, .bool x.xCheat.xCry, .bool x.xQuarrel.xSome, .int .i64 x.xQuarrel.xFrom, .int .i64 x.xQuarrel.xCheck, .int .i64 x.xQuarrel.xTo, .int .i64 x.xQuarrel.xTold, .int .i64 x.xQuarrel.xHeard, .int .i64 x.xQuarrel.xOther, .int .i64 x.xQuarrel.xVowed] := (Blk.new w _ _).alloc _
  have Y0 : Blk ((w.alloc (.cells #[.slice p0 x.xTape.length c0, .slice p1 x.xUsed.length c1, .int .i64 x.xSent, .slice p2 x.xHeard.length c2, .int .i64 x.xCheat.xWho, .int .i64 x.xCheat.xAt, .int .i64 x.xCheat.xBy, .bool x.xCheat.xCry, .bool x.xQuarrel.xSome, .int .i64 x.xQuarrel.xFrom, .int .i64 x.xQuarrel.xCheck, .int .i64 x.xQuarrel.xTo, .int .i64 x.xQuarrel.xTold, .int .i64 x.xQuarrel.xHeard, .int .i64 x.xQuarrel.xOther, .int .i64 x.xQuarrel.xVowed] 37)).alloc (.cells #[.int .i64 0, .int .i64 0, .slice none 0 0, .slice none 0 0, .int .i64 0, .slice none 0 0, .int .i64 0, .int .i64 0, .int .i64 0, .bool false, .bool false, .int .i64 0, .int .i64 0, .int .i64 0, .int .i64 0, .int .i64 0, .int .i64 0, .int .i64 0] 39)) (w.heap.size + 1) 39 #[.int .i64 0, .int .i64 0, .slice none 0 0, .slice none 0 0, .int .i64 0, .slice none 0 0, .int .i64 0, .int .i64 0, .int .i64 0, .bool false, .bool false, .int .i64 0, .int .i64 0, .int .i64 0, .int .i64 0, .int .i64 0, .int .i64 0, .int .i64 0] := by simpa using Blk.new (w.alloc (.cells #[.slice p0 x.xTape.length c0, .slice p1 x.xUsed.length c1, .int .i64 x.xSent, .slice p2 x.xHeard.length c2, .int .i64 x.xCheat.xWho, .int .i64 x.xCheat.xAt, .int .i64 x.xCheat.xBy, .bool x.xCheat.xCry, .bool x.xQuarrel.xSome, .int .i64 x.xQuarrel.xFrom, .int .i64 x.xQuarrel.xCheck, .int .i64 x.xQuarrel.xTo, .int .i64 x.xQuarrel.xTold, .int .i64 x.xQuarrel.xHeard, .int .i64 x.xQuarrel.xOther, .int .i64 x.xQuarrel.xVowed] 37)) 39 #[.int .i64 0, .int .i64 0, .slice none 0 0, .slice none 0 0, .int .i64 0, .slice none 0 0, .int .i64 0, .int .i64 0, .int .i64 0, .bool false, .bool false, .int .i64 0, .int .i64 0, .int .i64 0, .int .i64 0, .int .i64 0, .int .i64 0, .int .i64 0]
  have sz0 : ((w.alloc (.cells #[.slice p0 x.xTape.length c0, .slice p1 x.xUsed.length c1, .int .i64 x.xSent, .slice p2 x.xHeard.length c2, .int .i64 x.xCheat.xWho, .int .i64 x.xCheat.xAt, .int .i64 x.xCheat.xBy, .bool x.xCheat.xCry, .bool x.xQuarrel.xSome, .int .i64 x.xQuarrel.xFrom, .int .i64 x.xQuarrel.xCheck, .int .i64 x.xQuarrel.xTo, .int .i64 x.xQuarrel.xTold, .int .i64 x.xQuarrel.xHeard, .int .i64 x.xQuarrel.xOther, .int .i64 x.xQuarrel.xVowed] 37)).alloc (.cells #[.int .i64 0, .int .i64 0, .slice none 0 0, .slice none 0 0, .int .i64 0, .slice none 0 0, .int .i64 0, .int .i64 0, .int .i64 0, .bool false, .bool false, .int .i64 0, .int .i64 0, .int .i64 0, .int .i64 0, .int .i64 0, .int .i64 0, .int .i64 0] 39)).heap.size = w.heap.size + 2 := by simp
  have K := spec_l4Fault _ x p0 p1 p2 c0 c1 c2 _ X0 (h0.below B0) (h1.below B0) (h2.below B0)
  by_cases k0 : netC x = 0
  · by_cases hsome : x.xQuarrel.xSome = true
    · rw [sendR_quarrel _ _ _ _ _ _ k0 hsome]
      have HT : Hid (x.xQuarrel.xSome = true) := hsome
      rw [k0] at K
      clear k0 hsome
      go_enter Try.func9, Try.ntmps9
      go_wp2_with fail
      refine K.mono ?_
      rintro e w' ⟨rfl, rfl⟩
      clear K
      generalize ((w.alloc (.cells #[.slice p0 x.xTape.length c0, .slice p1 x.xUsed.length c1, .int .i64 x.xSent, .slice p2 x.xHeard.length c2, .int .i64 x.xCheat.xWho, .int .i64 x.xCheat.xAt, .int .i64 x.xCheat.xBy, .bool x.xCheat.xCry, .bool x.xQuarrel.xSome, .int .i64 x.xQuarrel.xFrom, .int .i64 x.xQuarrel.xCheck, .int .i64 x.xQuarrel.xTo, .int .i64 x.xQuarrel.xTold, .int .i64 x.xQuarrel.xHeard, .int .i64 x.xQuarrel.xOther, .int .i64 x.xQuarrel.xVowed] 37)).alloc (.cells #[.int .i64 0, .int .i64 0, .slice none 0 0, .slice none 0 0, .int .i64 0, .slice none 0 0, .int .i64 0, .int .i64 0, .int .i64 0, .bool false, .bool false, .int .i64 0, .int .i64 0, .int .i64 0, .int .i64 0, .int .i64 0, .int .i64 0, .int .i64 0] 39)) = w1 at *
      have sz1 : w.heap.size + 2 ≤ w1.heap.size := by rw [sz0]; exact Nat.le_refl _
      have xa := X0.at.1
      rw [show (#[.slice p0 x.xTape.length c0, .slice p1 x.xUsed.length c1, .int .i64 x.xSent, .slice p2 x.xHeard.length c2, .int .i64 x.xCheat.xWho, .int .i64 x.xCheat.xAt, .int .i64 x.xCheat.xBy, .bool x.xCheat.xCry, .bool x.xQuarrel.xSome, .int .i64 x.xQuarrel.xFrom, .int .i64 x.xQuarrel.xCheck, .int .i64 x.xQuarrel.xTo, .int .i64 x.xQuarrel.xTold, .int .i64 x.xQuarrel.xHeard, .int .i64 x.xQuarrel.xOther, .int .i64 x.xQuarrel.xVowed] : Array Value) = #[.slice p0 x.xTape.length c0, .slice p1 x.xUsed.length c1, .int .i64 x.xSent, .slice p2 x.xHeard.length c2, .int .i64 x.xCheat.xWho, .int .i64 x.xCheat.xAt, .int .i64 x.xCheat.xBy, .bool x.xCheat.xCry, .bool true, .int .i64 x.xQuarrel.xFrom, .int .i64 x.xQuarrel.xCheck, .int .i64 x.xQuarrel.xTo, .int .i64 x.xQuarrel.xTold, .int .i64 x.xQuarrel.xHeard, .int .i64 x.xQuarrel.xOther, .int .i64 x.xQuarrel.xVowed] by rw [HT.out]] at xa
      go_wp2_with fail
      refine (spec_l4Bad _ _).mono ?_
      rintro e w8 ⟨rfl, hb8⟩
      replace Y0 := Y0.keep hb8
      replace B0 : Below w.heap.size w w8 := B0.trans (hb8.mono B0.size)
      go_wp2_with (refine wpList_store_blk rfl 39 _ _ rfl (w.heap.size + 1) (#[.int .i64 6, .int .i64 0, .slice none 0 0, .slice none 0 0, .int .i64 0, .slice none 0 0, .int .i64 0, .int .i64 0, .int .i64 0, .bool false, .bool false, .int .i64 0, .int .i64 0, .int .i64 0, .int .i64 0, .int .i64 0, .int .i64 0, .int .i64 0]) rfl rfl Y0 rfl (by kernel_rfl) (by kernel_rfl) ?_; intro w9 Y9 O9)
      have B9 : Below w.heap.size w w9 := B0.trans (O9.toBelow B0.size (by simp))
      exact bodyPost_ret (v := .agg #[.int .i64 6, .int .i64 0, .slice none 0 0, .slice none 0 0, .int .i64 0, .slice none 0 0, .int .i64 0, .int .i64 0, .int .i64 0, .bool false, .bool false, .int .i64 0, .int .i64 0, .int .i64 0, .int .i64 0, .int .i64 0, .int .i64 0, .int .i64 0]) (results_blk Try.results9 rfl Y9 Try.underlying39 rfl (by kernel_rfl)) rfl (OutNetR.bad _ B9)
    · have hns := hsome
      have HT : Hid (x.xQuarrel.xSome = false) := by show _ = _; simpa using hns
      rw [k0] at K
      clear hsome
      by_cases k1 : q = 2 ∨ q = 256
      · by_cases k2 : Three fm ck tt
        · by_cases k3 : 0 ≤ a ∧ a < q
          · by_cases k4 : 0 ≤ b ∧ b < q
            · rw [sendR_in k0 hns ⟨k1, k2, k3, k4⟩]
              obtain ⟨l, rfl⟩ := Int.eq_ofNat_of_zero_le k2.2.2.1.1
              obtain ⟨z0, z1, z2, z3⟩ := netC_zero k0
              have hs := ((listsB_iff x).1 z2).2.2
              have hy := (cheatC_zero z3).2.2
              have hl4 : l < 4 := by have := k2.2.2.1.2; omega
              have lt1 : l < x.xHeard.length := by omega
              have hrow := hx.r l
              have hH0 : 0 < x.xHeard.length := by omega
              have HU : Hid (sentN x q fm ck l a b = { x with xSent := x.xSent + 2, xHeard := x.xHeard.set l (x.xHeard.getD l [] ++ [uT x q fm a, vT x q ck b]), xQuarrel := quarN x q fm ck l a b }) := rfl
              clear z0 z1 z2 z3 k0 hns
              go_enter Try.func9, Try.ntmps9
              go_wp2_with fail
              refine K.mono ?_
              rintro e w' ⟨rfl, rfl⟩
              clear K
              generalize ((w.alloc (.cells #[.slice p0 x.xTape.length c0, .slice p1 x.xUsed.length c1, .int .i64 x.xSent, .slice p2 x.xHeard.length c2, .int .i64 x.xCheat.xWho, .int .i64 x.xCheat.xAt, .int .i64 x.xCheat.xBy, .bool x.xCheat.xCry, .bool x.xQuarrel.xSome, .int .i64 x.xQuarrel.xFrom, .int .i64 x.xQuarrel.xCheck, .int .i64 x.xQuarrel.xTo, .int .i64 x.xQuarrel.xTold, .int .i64 x.xQuarrel.xHeard, .int .i64 x.xQuarrel.xOther, .int .i64 x.xQuarrel.xVowed] 37)).alloc (.cells #[.int .i64 0, .int .i64 0, .slice none 0 0, .slice none 0 0, .int .i64 0, .slice none 0 0, .int .i64 0, .int .i64 0, .int .i64 0, .bool false, .bool false, .int .i64 0, .int .i64 0, .int .i64 0, .int .i64 0, .int .i64 0, .int .i64 0, .int .i64 0] 39)) = w1 at *
              have sz1 : w.heap.size + 2 ≤ w1.heap.size := by rw [sz0]; exact Nat.le_refl _
              have xa := X0.at.1
              rw [show (#[.slice p0 x.xTape.length c0, .slice p1 x.xUsed.length c1, .int .i64 x.xSent, .slice p2 x.xHeard.length c2, .int .i64 x.xCheat.xWho, .int .i64 x.xCheat.xAt, .int .i64 x.xCheat.xBy, .bool x.xCheat.xCry, .bool x.xQuarrel.xSome, .int .i64 x.xQuarrel.xFrom, .int .i64 x.xQuarrel.xCheck, .int .i64 x.xQuarrel.xTo, .int .i64 x.xQuarrel.xTold, .int .i64 x.xQuarrel.xHeard, .int .i64 x.xQuarrel.xOther, .int .i64 x.xQuarrel.xVowed] : Array Value) = #[.slice p0 x.xTape.length c0, .slice p1 x.xUsed.length c1, .int .i64 x.xSent, .slice p2 x.xHeard.length c2, .int .i64 x.xCheat.xWho, .int .i64 x.xCheat.xAt, .int .i64 x.xCheat.xBy, .bool x.xCheat.xCry, .bool false, .int .i64 x.xQuarrel.xFrom, .int .i64 x.xQuarrel.xCheck, .int .i64 x.xQuarrel.xTo, .int .i64 x.xQuarrel.xTold, .int .i64 x.xQuarrel.xHeard, .int .i64 x.xQuarrel.xOther, .int .i64 x.xQuarrel.xVowed] by rw [HT.out]] at xa
              go_wp2_with fail
              refine (spec_l1Ring_yes _ _ k1).mono ?_
              rintro e w' ⟨rfl, rfl⟩
              go_wp2_with fail
              refine (spec_l4Three_yes _ _ _ _ k2).mono ?_
              rintro e w' ⟨rfl, rfl⟩
              go_wp2_with fail
              refine (spec_l1Has_yes _ _ _ (by omega) (by omega) k3.1 k3.2).mono ?_
              rintro e w' ⟨rfl, rfl⟩
              go_wp2_with fail
              refine (spec_l1Has_yes _ _ _ (by omega) (by omega) k4.1 k4.2).mono ?_
              rintro e w' ⟨rfl, rfl⟩
              (try clear xa)
              go_wp2_with (refine wpList_load_blk rfl 37 _ rfl w.heap.size rfl X0 Try.underlying37 rfl (by kernel_rfl) ?_)
              refine (spec_l4CopyT _ x _ ⟨p0, c0, p1, c1, p2, c2, rfl, h0.below B0, h1.below B0, h2.below B0⟩ hx).mono ?_
              rintro e w1b ⟨q0, d0, q1, d1, q2, d2, b0, b1, b2, rfl, T1, U1, H1, j01, j02, j12, f0, f1, f2, hb1⟩
              obtain ⟨gH, d2b, eg⟩ : ∃ gH d2b, Value.slice q2 x.xHeard.length d2 = .slice (some ⟨gH, 0, none⟩) x.xHeard.length d2b := by
                obtain ⟨vs, bo, bi, g1, g2, rfl, g3⟩ := H1
                obtain ⟨g, c, rfl, eg, -, -⟩ := Own.shape g1 hH0
                exact ⟨g, c, eg⟩
              simp only [Value.slice.injEq, true_and] at eg
              obtain ⟨rfl, rfl⟩ := eg
              replace f0 := fun y hy => Nat.le_trans sz1 (f0 y hy)
              replace f1 := fun y hy => Nat.le_trans sz1 (f1 y hy)
              replace f2 := fun y hy => Nat.le_trans sz1 (f2 y hy)
              replace Y0 := Y0.keep hb1
              replace B0 : Below w.heap.size w w1b := B0.trans (hb1.mono B0.size)
              replace sz1 := Nat.le_trans sz1 hb1.size
              clear X0 hb1 sz0 h0 h1 h2
              have Zn := Blk.new w1b 37 #[.slice none 0 0, .slice none 0 0, .int .i64 0, .slice none 0 0, .int .i64 0, .int .i64 0, .int .i64 0, .bool false, .bool false, .int .i64 0, .int .i64 0, .int .i64 0, .int .i64 0, .int .i64 0, .int .i64 0, .int .i64 0]
              go_wp2_with (refine wpList_store_blk rfl 37 _ _ rfl w1b.heap.size (#[.slice q0 x.xTape.length d0, .slice q1 x.xUsed.length d1, .int .i64 x.xSent, .slice (some ⟨gH, 0, none⟩) x.xHeard.length d2, .int .i64 x.xCheat.xWho, .int .i64 x.xCheat.xAt, .int .i64 x.xCheat.xBy, .bool x.xCheat.xCry, .bool x.xQuarrel.xSome, .int .i64 x.xQuarrel.xFrom, .int .i64 x.xQuarrel.xCheck, .int .i64 x.xQuarrel.xTo, .int .i64 x.xQuarrel.xTold, .int .i64 x.xQuarrel.xHeard, .int .i64 x.xQuarrel.xOther, .int .i64 x.xQuarrel.xVowed]) rfl rfl Zn rfl (by kernel_rfl) (by kernel_rfl) ?_; intro w2 Z2 O2)
              have O2' : ∀ y, y < w1b.heap.size → y ∉ [w1b.heap.size] := fun y hy hm => by simp at hm; omega
              have Y2 := (Y0.alloc (.cells #[.slice none 0 0, .slice none 0 0, .int .i64 0, .slice none 0 0, .int .i64 0, .int .i64 0, .int .i64 0, .bool false, .bool false, .int .i64 0, .int .i64 0, .int .i64 0, .int .i64 0, .int .i64 0, .int .i64 0, .int .i64 0] 37)).off O2 (O2' _ Y0.lt)
              have T2 := (T1.alloc (.cells #[.slice none 0 0, .slice none 0 0, .int .i64 0, .slice none 0 0, .int .i64 0, .int .i64 0, .int .i64 0, .bool false, .bool false, .int .i64 0, .int .i64 0, .int .i64 0, .int .i64 0, .int .i64 0, .int .i64 0, .int .i64 0] 37)).off O2 (fun y hy => O2' y (T1.lt y hy))
              have U2 := (Ints.alloc U1 (.cells #[.slice none 0 0, .slice none 0 0, .int .i64 0, .slice none 0 0, .int .i64 0, .int .i64 0, .int .i64 0, .bool false, .bool false, .int .i64 0, .int .i64 0, .int .i64 0, .int .i64 0, .int .i64 0, .int .i64 0, .int .i64 0] 37)).off O2 (fun y hy => O2' y (U1.lt y hy))
              have H2 := (H1.alloc (.cells #[.slice none 0 0, .slice none 0 0, .int .i64 0, .slice none 0 0, .int .i64 0, .int .i64 0, .int .i64 0, .bool false, .bool false, .int .i64 0, .int .i64 0, .int .i64 0, .int .i64 0, .int .i64 0, .int .i64 0, .int .i64 0] 37)).off O2 (fun y hy => O2' y (H1.lt y hy))
              have B2 : Below w.heap.size w w2 := (B0.alloc B0.size _).trans (O2.toBelow (by have := B0.size; simp; omega) (by have := B0.size; simp; omega))
              have nb1 : w1b.heap.size ∉ b1 := fun hm => Nat.lt_irrefl _ (U1.lt _ hm)
              have ltY := Y0.lt
              have nbH : w1b.heap.size ∉ b2 := fun hm => Nat.lt_irrefl _ (H1.lt _ hm)
              have nbT : w1b.heap.size ∉ b0 := fun hm => Nat.lt_irrefl _ (T1.lt _ hm)
              clear Y0 B0 T1 U1 H1 O2 Zn
              generalize w1b.heap.size = g at *
              have KT := spec_l4Joint g x q0 q1 gH d0 d1 d2 b2 q fm ck l a b w2 Z2 H2 nbH (by omega) k1 k2 k3 k4 hy lt1 (by omega)
              go_wp2_with fail
              refine KT.mono ?_
              rintro e w3 ⟨rfl, cs, Z3, M3, hcs, O3⟩
              have Y3 := Y2.off O3 (fun hm => by rcases List.mem_cons.1 hm with h | h; (omega); (have := f2 _ h; omega))
              have ltT := T2.lt
              have ltU := U2.lt
              have T3 := T2.off O3 (fun y hy hm => by rcases List.mem_cons.1 hm with h | h; (exact nbT (h ▸ hy)); (exact j02 y hy h))
              have U3 := U2.off O3 (fun y hy hm => by rcases List.mem_cons.1 hm with h | h; (exact nb1 (h ▸ hy)); (exact j12 y hy h))
              have B3 : Below w.heap.size w w3 := B2.trans (O3.toBelow B2.size (fun y hy => by rcases List.mem_cons.1 hy with h | h; (omega); (have := f2 _ h; omega)))
              have j02b : Dj b0 cs := fun y hy hm => (hcs y hm).elim (j02 y hy) (fun h => by have := ltT y hy; omega)
              have j12b : Dj b1 cs := fun y hy hm => (hcs y hm).elim (j12 y hy) (fun h => by have := ltU y hy; omega)
              have fcs : ∀ y ∈ cs, w.heap.size + 2 ≤ y := fun y hy => (hcs y hy).elim (f2 y) (fun h => by have := Z2.lt; omega)
              clear Z2 Y2 T2 U2 H2 B2 O3 KT ltT ltU
              generalize hrr : uT x q fm a = r at *
              have HR : Hid (uT x q fm a = r) := hrr
              generalize hzz : quarN x q fm ck l a b = zz at *
              clear hrr hzz
              go_wp2_with (first | (refine wpList_load_blk rfl 37 _ rfl g rfl Z3 Try.underlying37 rfl (by kernel_rfl) ?_) | (refine wpList_store_blk rfl 39 _ _ rfl (w.heap.size + 1) (#[.int .i64 0, .int .i64 r, .slice q0 x.xTape.length d0, .slice q1 x.xUsed.length d1, .int .i64 (x.xSent + 2), .slice (some ⟨gH, 0, none⟩) x.xHeard.length d2, .int .i64 x.xCheat.xWho, .int .i64 x.xCheat.xAt, .int .i64 x.xCheat.xBy, .bool x.xCheat.xCry, .bool zz.xSome, .int .i64 zz.xFrom, .int .i64 zz.xCheck, .int .i64 zz.xTo, .int .i64 zz.xTold, .int .i64 zz.xHeard, .int .i64 zz.xOther, .int .i64 zz.xVowed]) rfl rfl Y3 rfl (by kernel_rfl) (by kernel_rfl) ?_; intro w4 Y4 O4))
              have B4 : Below w.heap.size w w4 := B3.trans (O4.toBelow B3.size (by simp))
              refine bodyPost_ret (v := .agg #[.int .i64 0, .int .i64 r, .slice q0 x.xTape.length d0, .slice q1 x.xUsed.length d1, .int .i64 (x.xSent + 2), .slice (some ⟨gH, 0, none⟩) x.xHeard.length d2, .int .i64 x.xCheat.xWho, .int .i64 x.xCheat.xAt, .int .i64 x.xCheat.xBy, .bool x.xCheat.xCry, .bool zz.xSome, .int .i64 zz.xFrom, .int .i64 zz.xCheck, .int .i64 zz.xTo, .int .i64 zz.xTold, .int .i64 zz.xHeard, .int .i64 zz.xOther, .int .i64 zz.xVowed]) (results_blk Try.results9 rfl Y4 Try.underlying39 rfl (by kernel_rfl)) rfl ⟨_, b0, b1, cs, rfl, ?_, fun y hy => by have := f0 y hy; omega, fun y hy => by have := f1 y hy; omega, fun y hy => by have := fcs y hy; omega, B4⟩
              rw [HU.out]
              exact ⟨q0, d0, q1, d1, some ⟨gH, 0, none⟩, d2, by simp [HR.out], T3.off O4 (fun y hy hm => by have := f0 y hy; simp at hm; omega), U3.off O4 (fun y hy hm => by have := f1 y hy; simp at hm; omega), by have := (M3.mat).off O4 (fun y hy hm => by have := fcs y hy; simp at hm; omega); simpa using this, j01, j02b, j12b⟩
            · rw [sendR_out k0 hns (fun h => k4 h.2.2.2)]
              clear k0 hns
              go_enter Try.func9, Try.ntmps9
              go_wp2_with fail
              refine K.mono ?_
              rintro e w' ⟨rfl, rfl⟩
              clear K
              generalize ((w.alloc (.cells #[.slice p0 x.xTape.length c0, .slice p1 x.xUsed.length c1, .int .i64 x.xSent, .slice p2 x.xHeard.length c2, .int .i64 x.xCheat.xWho, .int .i64 x.xCheat.xAt, .int .i64 x.xCheat.xBy, .bool x.xCheat.xCry, .bool x.xQuarrel.xSome, .int .i64 x.xQuarrel.xFrom, .int .i64 x.xQuarrel.xCheck, .int .i64 x.xQuarrel.xTo, .int .i64 x.xQuarrel.xTold, .int .i64 x.xQuarrel.xHeard, .int .i64 x.xQuarrel.xOther, .int .i64 x.xQuarrel.xVowed] 37)).alloc (.cells #[.int .i64 0, .int .i64 0, .slice none 0 0, .slice none 0 0, .int .i64 0, .slice none 0 0, .int .i64 0, .int .i64 0, .int .i64 0, .bool false, .bool false, .int .i64 0, .int .i64 0, .int .i64 0, .int .i64 0, .int .i64 0, .int .i64 0, .int .i64 0] 39)) = w1 at *
              have sz1 : w.heap.size + 2 ≤ w1.heap.size := by rw [sz0]; exact Nat.le_refl _
              have xa := X0.at.1
              rw [show (#[.slice p0 x.xTape.length c0, .slice p1 x.xUsed.length c1, .int .i64 x.xSent, .slice p2 x.xHeard.length c2, .int .i64 x.xCheat.xWho, .int .i64 x.xCheat.xAt, .int .i64 x.xCheat.xBy, .bool x.xCheat.xCry, .bool x.xQuarrel.xSome, .int .i64 x.xQuarrel.xFrom, .int .i64 x.xQuarrel.xCheck, .int .i64 x.xQuarrel.xTo, .int .i64 x.xQuarrel.xTold, .int .i64 x.xQuarrel.xHeard, .int .i64 x.xQuarrel.xOther, .int .i64 x.xQuarrel.xVowed] : Array Value) = #[.slice p0 x.xTape.length c0, .slice p1 x.xUsed.length c1, .int .i64 x.xSent, .slice p2 x.xHeard.length c2, .int .i64 x.xCheat.xWho, .int .i64 x.xCheat.xAt, .int .i64 x.xCheat.xBy, .bool x.xCheat.xCry, .bool false, .int .i64 x.xQuarrel.xFrom, .int .i64 x.xQuarrel.xCheck, .int .i64 x.xQuarrel.xTo, .int .i64 x.xQuarrel.xTold, .int .i64 x.xQuarrel.xHeard, .int .i64 x.xQuarrel.xOther, .int .i64 x.xQuarrel.xVowed] by rw [HT.out]] at xa
              go_wp2_with fail
              refine (spec_l1Ring_yes _ _ k1).mono ?_
              rintro e w' ⟨rfl, rfl⟩
              go_wp2_with fail
              refine (spec_l4Three_yes _ _ _ _ k2).mono ?_
              rintro e w' ⟨rfl, rfl⟩
              go_wp2_with fail
              refine (spec_l1Has_yes _ _ _ (by omega) (by omega) k3.1 k3.2).mono ?_
              rintro e w' ⟨rfl, rfl⟩
              go_wp2_with fail
              refine (spec_l1Has_no _ _ _ (by omega) (by omega) (by omega)).mono ?_
              rintro e w' ⟨rfl, rfl⟩
              (try clear xa)
              go_wp2_with fail
              refine (spec_l4Bad _ _).mono ?_
              rintro e w8 ⟨rfl, hb8⟩
              replace Y0 := Y0.keep hb8
              replace B0 : Below w.heap.size w w8 := B0.trans (hb8.mono B0.size)
              go_wp2_with (refine wpList_store_blk rfl 39 _ _ rfl (w.heap.size + 1) (#[.int .i64 3, .int .i64 0, .slice none 0 0, .slice none 0 0, .int .i64 0, .slice none 0 0, .int .i64 0, .int .i64 0, .int .i64 0, .bool false, .bool false, .int .i64 0, .int .i64 0, .int .i64 0, .int .i64 0, .int .i64 0, .int .i64 0, .int .i64 0]) rfl rfl Y0 rfl (by kernel_rfl) (by kernel_rfl) ?_; intro w9 Y9 O9)
              have B9 : Below w.heap.size w w9 := B0.trans (O9.toBelow B0.size (by simp))
              exact bodyPost_ret (v := .agg #[.int .i64 3, .int .i64 0, .slice none 0 0, .slice none 0 0, .int .i64 0, .slice none 0 0, .int .i64 0, .int .i64 0, .int .i64 0, .bool false, .bool false, .int .i64 0, .int .i64 0, .int .i64 0, .int .i64 0, .int .i64 0, .int .i64 0, .int .i64 0]) (results_blk Try.results9 rfl Y9 Try.underlying39 rfl (by kernel_rfl)) rfl (OutNetR.bad _ B9)
          · rw [sendR_out k0 hns (fun h => k3 h.2.2.1)]
            clear k0 hns
            go_enter Try.func9, Try.ntmps9
            go_wp2_with fail
            refine K.mono ?_
            rintro e w' ⟨rfl, rfl⟩
            clear K
            generalize ((w.alloc (.cells #[.slice p0 x.xTape.length c0, .slice p1 x.xUsed.length c1, .int .i64 x.xSent, .slice p2 x.xHeard.length c2, .int .i64 x.xCheat.xWho, .int .i64 x.xCheat.xAt, .int .i64 x.xCheat.xBy, .bool x.xCheat.xCry, .bool x.xQuarrel.xSome, .int .i64 x.xQuarrel.xFrom, .int .i64 x.xQuarrel.xCheck, .int .i64 x.xQuarrel.xTo, .int .i64 x.xQuarrel.xTold, .int .i64 x.xQuarrel.xHeard, .int .i64 x.xQuarrel.xOther, .int .i64 x.xQuarrel.xVowed] 37)).alloc (.cells #[.int .i64 0, .int .i64 0, .slice none 0 0, .slice none 0 0, .int .i64 0, .slice none 0 0, .int .i64 0, .int .i64 0, .int .i64 0, .bool false, .bool false, .int .i64 0, .int .i64 0, .int .i64 0, .int .i64 0, .int .i64 0, .int .i64 0, .int .i64 0] 39)) = w1 at *
            have sz1 : w.heap.size + 2 ≤ w1.heap.size := by rw [sz0]; exact Nat.le_refl _
            have xa := X0.at.1
            rw [show (#[.slice p0 x.xTape.length c0, .slice p1 x.xUsed.length c1, .int .i64 x.xSent, .slice p2 x.xHeard.length c2, .int .i64 x.xCheat.xWho, .int .i64 x.xCheat.xAt, .int .i64 x.xCheat.xBy, .bool x.xCheat.xCry, .bool x.xQuarrel.xSome, .int .i64 x.xQuarrel.xFrom, .int .i64 x.xQuarrel.xCheck, .int .i64 x.xQuarrel.xTo, .int .i64 x.xQuarrel.xTold, .int .i64 x.xQuarrel.xHeard, .int .i64 x.xQuarrel.xOther, .int .i64 x.xQuarrel.xVowed] : Array Value) = #[.slice p0 x.xTape.length c0, .slice p1 x.xUsed.length c1, .int .i64 x.xSent, .slice p2 x.xHeard.length c2, .int .i64 x.xCheat.xWho, .int .i64 x.xCheat.xAt, .int .i64 x.xCheat.xBy, .bool x.xCheat.xCry, .bool false, .int .i64 x.xQuarrel.xFrom, .int .i64 x.xQuarrel.xCheck, .int .i64 x.xQuarrel.xTo, .int .i64 x.xQuarrel.xTold, .int .i64 x.xQuarrel.xHeard, .int .i64 x.xQuarrel.xOther, .int .i64 x.xQuarrel.xVowed] by rw [HT.out]] at xa
            go_wp2_with fail
            refine (spec_l1Ring_yes _ _ k1).mono ?_
            rintro e w' ⟨rfl, rfl⟩
            go_wp2_with fail
            refine (spec_l4Three_yes _ _ _ _ k2).mono ?_
            rintro e w' ⟨rfl, rfl⟩
            go_wp2_with fail
            refine (spec_l1Has_no _ _ _ (by omega) (by omega) (by omega)).mono ?_
            rintro e w' ⟨rfl, rfl⟩
            (try clear xa)
            go_wp2_with fail
            refine (spec_l4Bad _ _).mono ?_
            rintro e w8 ⟨rfl, hb8⟩
            replace Y0 := Y0.keep hb8
            replace B0 : Below w.heap.size w w8 := B0.trans (hb8.mono B0.size)
            go_wp2_with (refine wpList_store_blk rfl 39 _ _ rfl (w.heap.size + 1) (#[.int .i64 3, .int .i64 0, .slice none 0 0, .slice none 0 0, .int .i64 0, .slice none 0 0, .int .i64 0, .int .i64 0, .int .i64 0, .bool false, .bool false, .int .i64 0, .int .i64 0, .int .i64 0, .int .i64 0, .int .i64 0, .int .i64 0, .int .i64 0]) rfl rfl Y0 rfl (by kernel_rfl) (by kernel_rfl) ?_; intro w9 Y9 O9)
            have B9 : Below w.heap.size w w9 := B0.trans (O9.toBelow B0.size (by simp))
            exact bodyPost_ret (v := .agg #[.int .i64 3, .int .i64 0, .slice none 0 0, .slice none 0 0, .int .i64 0, .slice none 0 0, .int .i64 0, .int .i64 0, .int .i64 0, .bool false, .bool false, .int .i64 0, .int .i64 0, .int .i64 0, .int .i64 0, .int .i64 0, .int .i64 0, .int .i64 0]) (results_blk Try.results9 rfl Y9 Try.underlying39 rfl (by kernel_rfl)) rfl (OutNetR.bad _ B9)
        · rw [sendR_out k0 hns (fun h => k2 h.2.1)]
          clear k0 hns
          go_enter Try.func9, Try.ntmps9
          go_wp2_with fail
          refine K.mono ?_
          rintro e w' ⟨rfl, rfl⟩
          clear K
          generalize ((w.alloc (.cells #[.slice p0 x.xTape.length c0, .slice p1 x.xUsed.length c1, .int .i64 x.xSent, .slice p2 x.xHeard.length c2, .int .i64 x.xCheat.xWho, .int .i64 x.xCheat.xAt, .int .i64 x.xCheat.xBy, .bool x.xCheat.xCry, .bool x.xQuarrel.xSome, .int .i64 x.xQuarrel.xFrom, .int .i64 x.xQuarrel.xCheck, .int .i64 x.xQuarrel.xTo, .int .i64 x.xQuarrel.xTold, .int .i64 x.xQuarrel.xHeard, .int .i64 x.xQuarrel.xOther, .int .i64 x.xQuarrel.xVowed] 37)).alloc (.cells #[.int .i64 0, .int .i64 0, .slice none 0 0, .slice none 0 0, .int .i64 0, .slice none 0 0, .int .i64 0, .int .i64 0, .int .i64 0, .bool false, .bool false, .int .i64 0, .int .i64 0, .int .i64 0, .int .i64 0, .int .i64 0, .int .i64 0, .int .i64 0] 39)) = w1 at *
          have sz1 : w.heap.size + 2 ≤ w1.heap.size := by rw [sz0]; exact Nat.le_refl _
          have xa := X0.at.1
          rw [show (#[.slice p0 x.xTape.length c0, .slice p1 x.xUsed.length c1, .int .i64 x.xSent, .slice p2 x.xHeard.length c2, .int .i64 x.xCheat.xWho, .int .i64 x.xCheat.xAt, .int .i64 x.xCheat.xBy, .bool x.xCheat.xCry, .bool x.xQuarrel.xSome, .int .i64 x.xQuarrel.xFrom, .int .i64 x.xQuarrel.xCheck, .int .i64 x.xQuarrel.xTo, .int .i64 x.xQuarrel.xTold, .int .i64 x.xQuarrel.xHeard, .int .i64 x.xQuarrel.xOther, .int .i64 x.xQuarrel.xVowed] : Array Value) = #[.slice p0 x.xTape.length c0, .slice p1 x.xUsed.length c1, .int .i64 x.xSent, .slice p2 x.xHeard.length c2, .int .i64 x.xCheat.xWho, .int .i64 x.xCheat.xAt, .int .i64 x.xCheat.xBy, .bool x.xCheat.xCry, .bool false, .int .i64 x.xQuarrel.xFrom, .int .i64 x.xQuarrel.xCheck, .int .i64 x.xQuarrel.xTo, .int .i64 x.xQuarrel.xTold, .int .i64 x.xQuarrel.xHeard, .int .i64 x.xQuarrel.xOther, .int .i64 x.xQuarrel.xVowed] by rw [HT.out]] at xa
          go_wp2_with fail
          refine (spec_l1Ring_yes _ _ k1).mono ?_
          rintro e w' ⟨rfl, rfl⟩
          go_wp2_with fail
          refine (spec_l4Three_no _ _ _ _ k2).mono ?_
          rintro e w' ⟨rfl, rfl⟩
          (try clear xa)
          go_wp2_with fail
          refine (spec_l4Bad _ _).mono ?_
          rintro e w8 ⟨rfl, hb8⟩
          replace Y0 := Y0.keep hb8
          replace B0 : Below w.heap.size w w8 := B0.trans (hb8.mono B0.size)
          go_wp2_with (refine wpList_store_blk rfl 39 _ _ rfl (w.heap.size + 1) (#[.int .i64 3, .int .i64 0, .slice none 0 0, .slice none 0 0, .int .i64 0, .slice none 0 0, .int .i64 0, .int .i64 0, .int .i64 0, .bool false, .bool false, .int .i64 0, .int .i64 0, .int .i64 0, .int .i64 0, .int .i64 0, .int .i64 0, .int .i64 0]) rfl rfl Y0 rfl (by kernel_rfl) (by kernel_rfl) ?_; intro w9 Y9 O9)
          have B9 : Below w.heap.size w w9 := B0.trans (O9.toBelow B0.size (by simp))
          exact bodyPost_ret (v := .agg #[.int .i64 3, .int .i64 0, .slice none 0 0, .slice none 0 0, .int .i64 0, .slice none 0 0, .int .i64 0, .int .i64 0, .int .i64 0, .bool false, .bool false, .int .i64 0, .int .i64 0, .int .i64 0, .int .i64 0, .int .i64 0, .int .i64 0, .int .i64 0]) (results_blk Try.results9 rfl Y9 Try.underlying39 rfl (by kernel_rfl)) rfl (OutNetR.bad _ B9)
      · rw [sendR_out k0 hns (fun h => k1 h.1)]
        clear k0 hns
        go_enter Try.func9, Try.ntmps9
        go_wp2_with fail
        refine K.mono ?_
        rintro e w' ⟨rfl, rfl⟩
        clear K
        generalize ((w.alloc (.cells #[.slice p0 x.xTape.length c0, .slice p1 x.xUsed.length c1, .int .i64 x.xSent, .slice p2 x.xHeard.length c2, .int .i64 x.xCheat.xWho, .int .i64 x.xCheat.xAt, .int .i64 x.xCheat.xBy, .bool x.xCheat.xCry, .bool x.xQuarrel.xSome, .int .i64 x.xQuarrel.xFrom, .int .i64 x.xQuarrel.xCheck, .int .i64 x.xQuarrel.xTo, .int .i64 x.xQuarrel.xTold, .int .i64 x.xQuarrel.xHeard, .int .i64 x.xQuarrel.xOther, .int .i64 x.xQuarrel.xVowed] 37)).alloc (.cells #[.int .i64 0, .int .i64 0, .slice none 0 0, .slice none 0 0, .int .i64 0, .slice none 0 0, .int .i64 0, .int .i64 0, .int .i64 0, .bool false, .bool false, .int .i64 0, .int .i64 0, .int .i64 0, .int .i64 0, .int .i64 0, .int .i64 0, .int .i64 0] 39)) = w1 at *
        have sz1 : w.heap.size + 2 ≤ w1.heap.size := by rw [sz0]; exact Nat.le_refl _
        have xa := X0.at.1
        rw [show (#[.slice p0 x.xTape.length c0, .slice p1 x.xUsed.length c1, .int .i64 x.xSent, .slice p2 x.xHeard.length c2, .int .i64 x.xCheat.xWho, .int .i64 x.xCheat.xAt, .int .i64 x.xCheat.xBy, .bool x.xCheat.xCry, .bool x.xQuarrel.xSome, .int .i64 x.xQuarrel.xFrom, .int .i64 x.xQuarrel.xCheck, .int .i64 x.xQuarrel.xTo, .int .i64 x.xQuarrel.xTold, .int .i64 x.xQuarrel.xHeard, .int .i64 x.xQuarrel.xOther, .int .i64 x.xQuarrel.xVowed] : Array Value) = #[.slice p0 x.xTape.length c0, .slice p1 x.xUsed.length c1, .int .i64 x.xSent, .slice p2 x.xHeard.length c2, .int .i64 x.xCheat.xWho, .int .i64 x.xCheat.xAt, .int .i64 x.xCheat.xBy, .bool x.xCheat.xCry, .bool false, .int .i64 x.xQuarrel.xFrom, .int .i64 x.xQuarrel.xCheck, .int .i64 x.xQuarrel.xTo, .int .i64 x.xQuarrel.xTold, .int .i64 x.xQuarrel.xHeard, .int .i64 x.xQuarrel.xOther, .int .i64 x.xQuarrel.xVowed] by rw [HT.out]] at xa
        go_wp2_with fail
        refine (spec_l1Ring_no _ _ k1).mono ?_
        rintro e w' ⟨rfl, rfl⟩
        (try clear xa)
        go_wp2_with fail
        refine (spec_l4Bad _ _).mono ?_
        rintro e w8 ⟨rfl, hb8⟩
        replace Y0 := Y0.keep hb8
        replace B0 : Below w.heap.size w w8 := B0.trans (hb8.mono B0.size)
        go_wp2_with (refine wpList_store_blk rfl 39 _ _ rfl (w.heap.size + 1) (#[.int .i64 3, .int .i64 0, .slice none 0 0, .slice none 0 0, .int .i64 0, .slice none 0 0, .int .i64 0, .int .i64 0, .int .i64 0, .bool false, .bool false, .int .i64 0, .int .i64 0, .int .i64 0, .int .i64 0, .int .i64 0, .int .i64 0, .int .i64 0]) rfl rfl Y0 rfl (by kernel_rfl) (by kernel_rfl) ?_; intro w9 Y9 O9)
        have B9 : Below w.heap.size w w9 := B0.trans (O9.toBelow B0.size (by simp))
        exact bodyPost_ret (v := .agg #[.int .i64 3, .int .i64 0, .slice none 0 0, .slice none 0 0, .int .i64 0, .slice none 0 0, .int .i64 0, .int .i64 0, .int .i64 0, .bool false, .bool false, .int .i64 0, .int .i64 0, .int .i64 0, .int .i64 0, .int .i64 0, .int .i64 0, .int .i64 0]) (results_blk Try.results9 rfl Y9 Try.underlying39 rfl (by kernel_rfl)) rfl (OutNetR.bad _ B9)
  · rw [sendR_fault _ _ _ _ _ _ k0]
    have hne : (netC x != 0) = true := by simpa using k0
    clear k0
    generalize hr : netC x = r at *
    clear hr
    go_enter Try.func9, Try.ntmps9
    go_wp2_with fail
    refine K.mono ?_
    rintro e w' ⟨rfl, rfl⟩
    clear K
    generalize ((w.alloc (.cells #[.slice p0 x.xTape.length c0, .slice p1 x.xUsed.length c1, .int .i64 x.xSent, .slice p2 x.xHeard.length c2, .int .i64 x.xCheat.xWho, .int .i64 x.xCheat.xAt, .int .i64 x.xCheat.xBy, .bool x.xCheat.xCry, .bool x.xQuarrel.xSome, .int .i64 x.xQuarrel.xFrom, .int .i64 x.xQuarrel.xCheck, .int .i64 x.xQuarrel.xTo, .int .i64 x.xQuarrel.xTold, .int .i64 x.xQuarrel.xHeard, .int .i64 x.xQuarrel.xOther, .int .i64 x.xQuarrel.xVowed] 37)).alloc (.cells #[.int .i64 0, .int .i64 0, .slice none 0 0, .slice none 0 0, .int .i64 0, .slice none 0 0, .int .i64 0, .int .i64 0, .int .i64 0, .bool false, .bool false, .int .i64 0, .int .i64 0, .int .i64 0, .int .i64 0, .int .i64 0, .int .i64 0, .int .i64 0] 39)) = w1 at *
    have sz1 : w.heap.size + 2 ≤ w1.heap.size := by rw [sz0]; exact Nat.le_refl _
    go_wp2_with fail
    refine (spec_l4Bad _ _).mono ?_
    rintro e w8 ⟨rfl, hb8⟩
    replace Y0 := Y0.keep hb8
    replace B0 : Below w.heap.size w w8 := B0.trans (hb8.mono B0.size)
    go_wp2_with (refine wpList_store_blk rfl 39 _ _ rfl (w.heap.size + 1) (#[.int .i64 r, .int .i64 0, .slice none 0 0, .slice none 0 0, .int .i64 0, .slice none 0 0, .int .i64 0, .int .i64 0, .int .i64 0, .bool false, .bool false, .int .i64 0, .int .i64 0, .int .i64 0, .int .i64 0, .int .i64 0, .int .i64 0, .int .i64 0]) rfl rfl Y0 rfl (by kernel_rfl) (by kernel_rfl) ?_; intro w9 Y9 O9)
    have B9 : Below w.heap.size w w9 := B0.trans (O9.toBelow B0.size (by simp))
    exact bodyPost_ret (v := .agg #[.int .i64 r, .int .i64 0, .slice none 0 0, .slice none 0 0, .int .i64 0, .slice none 0 0, .int .i64 0, .int .i64 0, .int .i64 0, .bool false, .bool false, .int .i64 0, .int .i64 0, .int .i64 0, .int .i64 0, .int .i64 0, .int .i64 0, .int .i64 0]) (results_blk Try.results9 rfl Y9 Try.underlying39 rfl (by kernel_rfl)) rfl (OutNetR.bad _ B9)
end Go.Proofs.Ytadppilldijijak
