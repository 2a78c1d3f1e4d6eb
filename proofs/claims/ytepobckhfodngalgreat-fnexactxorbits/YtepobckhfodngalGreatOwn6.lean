/-
  Contracts of chapters 5 and 6: may an owner give, on this net.
-/
import Derived.Test.YtepobckhfodngalGreatJnZ
namespace Go.Proofs.YtepobckhfodngalGreat
open Go.ChangeShapes Go.WideShapes Go.ChangeAt Go.RowKit
set_option linter.unusedVariables false
def ownC (x : MNet) (o : Int) : Int := if quietC x = 0 then (if 0 ≤ o ∧ o ≤ 3 then 0 else 3) else quietC x
theorem ownC_fault {x : MNet} {o : Int} (h : quietC x ≠ 0) : ownC x o = quietC x := if_neg h
theorem ownC_out {x : MNet} {o : Int} (h : quietC x = 0) (k : ¬ (0 ≤ o ∧ o ≤ 3)) : ownC x o = 3 := by unfold ownC; rw [if_pos h, if_neg k]
theorem ownC_in {x : MNet} {o : Int} (h : quietC x = 0) (k : 0 ≤ o ∧ o ≤ 3) : ownC x o = 0 := by unfold ownC; rw [if_pos h, if_pos k]
set_option maxHeartbeats 4000000 in
set_option maxRecDepth 100000 in
theorem impl_ownerFault (v : Value) (x : MNet) (o : Int) (w : World) (hv : RdNet w v x) :
    Calls Tryz.prog 58 #[v, .int .i64 o] w fun e w' => e = .returned (.int .i64 (ownC x o)) ∧ Below w.heap.size w w' := by
  obtain ⟨p0, c0, p1, c1, p2, c2, rfl, h0, h1, h2⟩ := hv
  have X0 := Blk.new w 41 #[.slice p0 x.xTape.length c0, .slice p1 x.xUsed.length c1, .int .i64 x.xSent, .slice p2 x.xHeard.length c2, .int .i64 x.xCheat.xWho, .int .i64 x.xCheat.xAt, .int .i64 x.xCheat.xBy, .bool x.xCheat.xCry, .bool x.xQuarrel.xSome, .int .i64 x.xQuarrel.xFrom, .int .i64 x.xQuarrel.xCheck, .int .i64 x.xQuarrel.xTo, .int .i64 x.xQuarrel.xTold, .int .i64 x.xQuarrel.xHeard, .int .i64 x.xQuarrel.xOther, .int .i64 x.xQuarrel.xVowed]
  have B0 : Below w.heap.size w (w.alloc (.cells #[.slice p0 x.xTape.length c0, .slice p1 x.xUsed.length c1, .int .i64 x.xSent, .slice p2 x.xHeard.length c2, .int .i64 x.xCheat.xWho, .int .i64 x.xCheat.xAt, .int .i64 x.xCheat.xBy, .bool x.xCheat.xCry, .bool x.xQuarrel.xSome, .int .i64 x.xQuarrel.xFrom, .int .i64 x.xQuarrel.xCheck, .int .i64 x.xQuarrel.xTo, .int .i64 x.xQuarrel.xTold, .int .i64 x.xQuarrel.xHeard, .int .i64 x.xQuarrel.xOther, .int .i64 x.xQuarrel.xVowed] 41)) := (by repeat (first | exact Below.refl _ _ | refine Below.drew ?_ | refine below_drewN ?_ _ | refine Below.setCell ?_ (by first | omega | (simp; done) | (simp; omega)) _ | refine Below.alloc ?_ (by first | omega | (simp; done) | (simp; omega)) _))
  have K := fun W h => impl_quietFault (.agg #[.slice p0 x.xTape.length c0, .slice p1 x.xUsed.length c1, .int .i64 x.xSent, .slice p2 x.xHeard.length c2, .int .i64 x.xCheat.xWho, .int .i64 x.xCheat.xAt, .int .i64 x.xCheat.xBy, .bool x.xCheat.xCry, .bool x.xQuarrel.xSome, .int .i64 x.xQuarrel.xFrom, .int .i64 x.xQuarrel.xCheck, .int .i64 x.xQuarrel.xTo, .int .i64 x.xQuarrel.xTold, .int .i64 x.xQuarrel.xHeard, .int .i64 x.xQuarrel.xOther, .int .i64 x.xQuarrel.xVowed]) x W h
  have HR : Hid (RdNet (w.alloc (.cells #[.slice p0 x.xTape.length c0, .slice p1 x.xUsed.length c1, .int .i64 x.xSent, .slice p2 x.xHeard.length c2, .int .i64 x.xCheat.xWho, .int .i64 x.xCheat.xAt, .int .i64 x.xCheat.xBy, .bool x.xCheat.xCry, .bool x.xQuarrel.xSome, .int .i64 x.xQuarrel.xFrom, .int .i64 x.xQuarrel.xCheck, .int .i64 x.xQuarrel.xTo, .int .i64 x.xQuarrel.xTold, .int .i64 x.xQuarrel.xHeard, .int .i64 x.xQuarrel.xOther, .int .i64 x.xQuarrel.xVowed] 41)) (.agg #[.slice p0 x.xTape.length c0, .slice p1 x.xUsed.length c1, .int .i64 x.xSent, .slice p2 x.xHeard.length c2, .int .i64 x.xCheat.xWho, .int .i64 x.xCheat.xAt, .int .i64 x.xCheat.xBy, .bool x.xCheat.xCry, .bool x.xQuarrel.xSome, .int .i64 x.xQuarrel.xFrom, .int .i64 x.xQuarrel.xCheck, .int .i64 x.xQuarrel.xTo, .int .i64 x.xQuarrel.xTold, .int .i64 x.xQuarrel.xHeard, .int .i64 x.xQuarrel.xOther, .int .i64 x.xQuarrel.xVowed]) x) := ⟨p0, c0, p1, c1, p2, c2, rfl, h0.below B0, h1.below B0, h2.below B0⟩
  clear h0 h1 h2
  by_cases k0 : quietC x = 0
  · rw [k0] at K
    by_cases k1 : 0 ≤ o ∧ o ≤ 3
    · rw [ownC_in k0 k1]
      clear k0
      go_enter Tryz.func58, Tryz.ntmps58
      go_wp2_with (refine wpList_load_blk rfl 41 _ rfl w.heap.size rfl X0 Tryz.underlying41 rfl (by kernel_rfl) ?_)
      refine (K _ HR.out).mono ?_
      rintro e w1 ⟨rfl, hb1⟩
      replace B0 : Below w.heap.size w w1 := B0.trans (hb1.mono B0.size)
      go_wp2_with fail
      refine (impl_isParty_yes _ _ k1).mono ?_
      rintro e w' ⟨rfl, rfl⟩
      go_wp2
      go_ret
      exact ⟨rfl, B0⟩
    · rw [ownC_out k0 k1]
      clear k0
      go_enter Tryz.func58, Tryz.ntmps58
      go_wp2_with (refine wpList_load_blk rfl 41 _ rfl w.heap.size rfl X0 Tryz.underlying41 rfl (by kernel_rfl) ?_)
      refine (K _ HR.out).mono ?_
      rintro e w1 ⟨rfl, hb1⟩
      replace B0 : Below w.heap.size w w1 := B0.trans (hb1.mono B0.size)
      go_wp2_with fail
      refine (impl_isParty_no _ _ k1).mono ?_
      rintro e w' ⟨rfl, rfl⟩
      go_wp2
      go_ret
      exact ⟨rfl, B0⟩
  · rw [ownC_fault k0]
    have hne : (quietC x != 0) = true := by simpa using k0
    generalize quietC x = r at *
    clear k0
    go_enter Tryz.func58, Tryz.ntmps58
    go_wp2_with (refine wpList_load_blk rfl 41 _ rfl w.heap.size rfl X0 Tryz.underlying41 rfl (by kernel_rfl) ?_)
    refine (K _ HR.out).mono ?_
    rintro e w1 ⟨rfl, hb1⟩
    replace B0 : Below w.heap.size w w1 := B0.trans (hb1.mono B0.size)
    go_wp2
    go_ret
    exact ⟨rfl, B0⟩
set_option maxHeartbeats 2000000 in
theorem spec_l5Free (b : Nat) (x : MNet) (p0 p1 p2 : Option Addr) (c0 c1 c2 : Nat) (w : World) (hb : Blk w b 41 #[.slice p0 x.xTape.length c0, .slice p1 x.xUsed.length c1, .int .i64 x.xSent, .slice p2 x.xHeard.length c2, .int .i64 x.xCheat.xWho, .int .i64 x.xCheat.xAt, .int .i64 x.xCheat.xBy, .bool x.xCheat.xCry, .bool x.xQuarrel.xSome, .int .i64 x.xQuarrel.xFrom, .int .i64 x.xQuarrel.xCheck, .int .i64 x.xQuarrel.xTo, .int .i64 x.xQuarrel.xTold, .int .i64 x.xQuarrel.xHeard, .int .i64 x.xQuarrel.xOther, .int .i64 x.xQuarrel.xVowed]) (h0 : ReadsM w (.slice p0 x.xTape.length c0) x.xTape) (h1 : Reads w .i64 (.slice p1 x.xUsed.length c1) x.xUsed) (h2 : ReadsM w (.slice p2 x.xHeard.length c2) x.xHeard) :
    Calls Tryz.prog 70 #[.pointer (some ⟨b, 0, none⟩)] w fun e w' => e = .returned (.int .i64 (quietC x)) ∧ w = w' := by
  have K := spec_l4Fault b x p0 p1 p2 c0 c1 c2 w hb h0 h1 h2
  have xl := hb.lt
  clear h0 h1 h2
  by_cases k0 : netC x = 0
  · rw [k0] at K
    cases k1 : x.xQuarrel.xSome
    · rw [show quietC x = 0 by unfold quietC; rw [if_pos k0, if_neg (by simp [k1])]]
      rw [k1] at hb
      have xa := hb.at.1
      clear k0 k1
      go_enter Tryz.func70, Tryz.ntmps70
      go_wp2_with fail
      refine K.mono ?_
      rintro e w' ⟨rfl, rfl⟩
      go_wp2
      go_ret
      exact ⟨rfl, rfl⟩
    · rw [show quietC x = 6 by unfold quietC; rw [if_pos k0, if_pos k1]]
      rw [k1] at hb
      have xa := hb.at.1
      clear k0 k1
      go_enter Tryz.func70, Tryz.ntmps70
      go_wp2_with fail
      refine K.mono ?_
      rintro e w' ⟨rfl, rfl⟩
      go_wp2
      go_ret
      exact ⟨rfl, rfl⟩
  · rw [show quietC x = netC x from if_neg k0]
    have hne : (netC x != 0) = true := by simpa using k0
    generalize netC x = r at *
    clear k0
    go_enter Tryz.func70, Tryz.ntmps70
    go_wp2_with fail
    refine K.mono ?_
    rintro e w' ⟨rfl, rfl⟩
    go_wp2
    go_ret
    exact ⟨rfl, rfl⟩
set_option maxHeartbeats 2000000 in
theorem spec_l6Asked (b : Nat) (x : MNet) (p0 p1 p2 : Option Addr) (c0 c1 c2 : Nat) (o : Int) (w : World) (hb : Blk w b 41 #[.slice p0 x.xTape.length c0, .slice p1 x.xUsed.length c1, .int .i64 x.xSent, .slice p2 x.xHeard.length c2, .int .i64 x.xCheat.xWho, .int .i64 x.xCheat.xAt, .int .i64 x.xCheat.xBy, .bool x.xCheat.xCry, .bool x.xQuarrel.xSome, .int .i64 x.xQuarrel.xFrom, .int .i64 x.xQuarrel.xCheck, .int .i64 x.xQuarrel.xTo, .int .i64 x.xQuarrel.xTold, .int .i64 x.xQuarrel.xHeard, .int .i64 x.xQuarrel.xOther, .int .i64 x.xQuarrel.xVowed]) (h0 : ReadsM w (.slice p0 x.xTape.length c0) x.xTape) (h1 : Reads w .i64 (.slice p1 x.xUsed.length c1) x.xUsed) (h2 : ReadsM w (.slice p2 x.xHeard.length c2) x.xHeard) :
    Calls Tryz.prog 55 #[.pointer (some ⟨b, 0, none⟩), .int .i64 o] w fun e w' => e = .returned (.int .i64 (ownC x o)) ∧ w = w' := by
  have K := spec_l5Free b x p0 p1 p2 c0 c1 c2 w hb h0 h1 h2
  clear hb h0 h1 h2
  by_cases k0 : quietC x = 0
  · rw [k0] at K
    by_cases k1 : 0 ≤ o ∧ o ≤ 3
    · rw [ownC_in k0 k1]
      clear k0
      go_enter Tryz.func55, Tryz.ntmps55
      go_wp2_with fail
      refine K.mono ?_
      rintro e w' ⟨rfl, rfl⟩
      go_wp2_with fail
      refine (spec_l2Party_yes _ _ k1).mono ?_
      rintro e w' ⟨rfl, rfl⟩
      go_wp2
      go_ret
      exact ⟨rfl, rfl⟩
    · rw [ownC_out k0 k1]
      clear k0
      go_enter Tryz.func55, Tryz.ntmps55
      go_wp2_with fail
      refine K.mono ?_
      rintro e w' ⟨rfl, rfl⟩
      go_wp2_with fail
      refine (spec_l2Party_no _ _ k1).mono ?_
      rintro e w' ⟨rfl, rfl⟩
      go_wp2
      go_ret
      exact ⟨rfl, rfl⟩
  · rw [ownC_fault k0]
    have hne : (quietC x != 0) = true := by simpa using k0
    generalize quietC x = r at *
    clear k0
    go_enter Tryz.func55, Tryz.ntmps55
    go_wp2_with fail
    refine K.mono ?_
    rintro e w' ⟨rfl, rfl⟩
    go_wp2
    go_ret
    exact ⟨rfl, rfl⟩
end Go.Proofs.YtepobckhfodngalGreat
