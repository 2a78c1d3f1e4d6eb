/-
  Contracts of chapter 4: joint messages, in the program and in its model.
-/
import Derived.Test.YtepobckhfodngaoGreatJnL
namespace Go.Proofs.YtepobckhfodngaoGreat
open Go.ChangeShapes Go.WideShapes Go.ChangeAt Go.RowKit
set_option linter.unusedVariables false

/-- what all ask that tell something -/
def quietC (x : MNet) : Int := if netC x = 0 then (if x.xQuarrel.xSome = true then 6 else 0) else netC x
set_option maxHeartbeats 4000000 in
set_option maxRecDepth 100000 in
theorem impl_quietFault (v : Value) (x : MNet) (w : World) (hv : RdNet w v x) :
    Calls Tryz.prog 66 #[v] w fun e w' => e = .returned (.int .i64 (quietC x)) ∧ Below w.heap.size w w' := by
  obtain ⟨p0, c0, p1, c1, p2, c2, rfl, h0, h1, h2⟩ := hv
  have X0 : Blk (w.alloc (.cells #[.slice p0 x.xTape.length c0, .slice p1 x.xUsed.length c1, .int .i64 x.xSent, .slice p2 x.xHeard.length c2, .int .i64 x.xCheat.xWho, .int .i64 x.xCheat.xAt, .int .i64 x.xCheat.xBy, .bool x.xCheat.xCry, .bool x.xQuarrel.xSome, .int .i64 x.xQuarrel.xFrom, .int .i64 x.xQuarrel.xCheck, .int .i64 x.xQuarrel.xTo, .int .i64 x.xQuarrel.xTold, .int .i64 x.xQuarrel.xHeard, .int .i64 x.xQuarrel.xOther, .int .i64 x.xQuarrel.xVowed] 41)) w.heap.size 41 #[.slice p0 x.xTape.length c0, .slice p1 x.xUsed.length c1, .int .i64 x.xSent, .slice p2 x.xHeard.length c2, .int .i64 x.xCheat.xWho, .int .i64 x.xCheat.xAt, .int .i64 x.xCheat.xBy, .bool x.xCheat.xCry, .bool x.xQuarrel.xSome, .int .i64 x.xQuarrel.xFrom, .int .i64 x.xQuarrel.xCheck, .int .i64 x.xQuarrel.xTo, .int .i64 x.xQuarrel.xTold, .int .i64 x.xQuarrel.xHeard, .int .i64 x.xQuarrel.xOther, .int .i64 x.xQuarrel.xVowed] := Blk.new w _ _
  have B0 : Below w.heap.size w (w.alloc (.cells #[.slice p0 x.xTape.length c0, .slice p1 x.xUsed.length c1, .int .i64 x.xSent, .slice p2 x.xHeard.length c2, .int .i64 x.xCheat.xWho, .int .i64 x.xCheat.xAt, .int .i64 x.xCheat.xBy, .bool x.xCheat.xCry, .bool x.xQuarrel.xSome, .int .i64 x.xQuarrel.xFrom, .int .i64 x.xQuarrel.xCheck, .int .i64 x.xQuarrel.xTo, .int .i64 x.xQuarrel.xTold, .int .i64 x.xQuarrel.xHeard, .int .i64 x.xQuarrel.xOther, .int .i64 x.xQuarrel.xVowed] 41)) := (Below.refl _ _).alloc (Nat.le_refl _) _
  have K := fun W h => impl_NetFault (.agg #[.slice p0 x.xTape.length c0, .slice p1 x.xUsed.length c1, .int .i64 x.xSent, .slice p2 x.xHeard.length c2, .int .i64 x.xCheat.xWho, .int .i64 x.xCheat.xAt, .int .i64 x.xCheat.xBy, .bool x.xCheat.xCry, .bool x.xQuarrel.xSome, .int .i64 x.xQuarrel.xFrom, .int .i64 x.xQuarrel.xCheck, .int .i64 x.xQuarrel.xTo, .int .i64 x.xQuarrel.xTold, .int .i64 x.xQuarrel.xHeard, .int .i64 x.xQuarrel.xOther, .int .i64 x.xQuarrel.xVowed]) x W h
  by_cases k0 : netC x = 0
  · rw [k0] at K
    by_cases k1 : x.xQuarrel.xSome = true
    · have HT : Hid (x.xQuarrel.xSome = true) := k1
      rw [show quietC x = 6 by unfold quietC; rw [if_pos k0, if_pos k1]]
      clear k0 k1
      go_enter Tryz.func66, Tryz.ntmps66
      go_wp2_with (refine wpList_load_blk rfl 41 _ rfl w.heap.size rfl X0 Tryz.underlying41 rfl (by kernel_rfl) ?_)
      refine (K _ ⟨p0, c0, p1, c1, p2, c2, rfl, h0.below B0, h1.below B0, h2.below B0⟩).mono ?_
      rintro e w1 ⟨rfl, hb1⟩
      replace X0 := X0.keep hb1
      replace B0 : Below w.heap.size w w1 := B0.trans (hb1.mono B0.size)
      have xa := X0.at.1
      have xl := X0.lt
      rw [show (#[.slice p0 x.xTape.length c0, .slice p1 x.xUsed.length c1, .int .i64 x.xSent, .slice p2 x.xHeard.length c2, .int .i64 x.xCheat.xWho, .int .i64 x.xCheat.xAt, .int .i64 x.xCheat.xBy, .bool x.xCheat.xCry, .bool x.xQuarrel.xSome, .int .i64 x.xQuarrel.xFrom, .int .i64 x.xQuarrel.xCheck, .int .i64 x.xQuarrel.xTo, .int .i64 x.xQuarrel.xTold, .int .i64 x.xQuarrel.xHeard, .int .i64 x.xQuarrel.xOther, .int .i64 x.xQuarrel.xVowed] : Array Value) = #[.slice p0 x.xTape.length c0, .slice p1 x.xUsed.length c1, .int .i64 x.xSent, .slice p2 x.xHeard.length c2, .int .i64 x.xCheat.xWho, .int .i64 x.xCheat.xAt, .int .i64 x.xCheat.xBy, .bool x.xCheat.xCry, .bool true, .int .i64 x.xQuarrel.xFrom, .int .i64 x.xQuarrel.xCheck, .int .i64 x.xQuarrel.xTo, .int .i64 x.xQuarrel.xTold, .int .i64 x.xQuarrel.xHeard, .int .i64 x.xQuarrel.xOther, .int .i64 x.xQuarrel.xVowed] by rw [HT.out]] at xa
      go_wp2
      go_ret
      exact ⟨rfl, B0⟩
    · have HT : Hid (x.xQuarrel.xSome = false) := by show _ = _; simpa using k1
      rw [show quietC x = 0 by unfold quietC; rw [if_pos k0, if_neg k1]]
      clear k0 k1
      go_enter Tryz.func66, Tryz.ntmps66
      go_wp2_with (refine wpList_load_blk rfl 41 _ rfl w.heap.size rfl X0 Tryz.underlying41 rfl (by kernel_rfl) ?_)
      refine (K _ ⟨p0, c0, p1, c1, p2, c2, rfl, h0.below B0, h1.below B0, h2.below B0⟩).mono ?_
      rintro e w1 ⟨rfl, hb1⟩
      replace X0 := X0.keep hb1
      replace B0 : Below w.heap.size w w1 := B0.trans (hb1.mono B0.size)
      have xa := X0.at.1
      have xl := X0.lt
      rw [show (#[.slice p0 x.xTape.length c0, .slice p1 x.xUsed.length c1, .int .i64 x.xSent, .slice p2 x.xHeard.length c2, .int .i64 x.xCheat.xWho, .int .i64 x.xCheat.xAt, .int .i64 x.xCheat.xBy, .bool x.xCheat.xCry, .bool x.xQuarrel.xSome, .int .i64 x.xQuarrel.xFrom, .int .i64 x.xQuarrel.xCheck, .int .i64 x.xQuarrel.xTo, .int .i64 x.xQuarrel.xTold, .int .i64 x.xQuarrel.xHeard, .int .i64 x.xQuarrel.xOther, .int .i64 x.xQuarrel.xVowed] : Array Value) = #[.slice p0 x.xTape.length c0, .slice p1 x.xUsed.length c1, .int .i64 x.xSent, .slice p2 x.xHeard.length c2, .int .i64 x.xCheat.xWho, .int .i64 x.xCheat.xAt, .int .i64 x.xCheat.xBy, .bool x.xCheat.xCry, .bool false, .int .i64 x.xQuarrel.xFrom, .int .i64 x.xQuarrel.xCheck, .int .i64 x.xQuarrel.xTo, .int .i64 x.xQuarrel.xTold, .int .i64 x.xQuarrel.xHeard, .int .i64 x.xQuarrel.xOther, .int .i64 x.xQuarrel.xVowed] by rw [HT.out]] at xa
      go_wp2
      go_ret
      exact ⟨rfl, B0⟩
  · rw [show quietC x = netC x from if_neg k0]
    have hne : (netC x != 0) = true := by simpa using k0
    clear k0
    generalize netC x = r at *
    go_enter Tryz.func66, Tryz.ntmps66
    go_wp2_with (refine wpList_load_blk rfl 41 _ rfl w.heap.size rfl X0 Tryz.underlying41 rfl (by kernel_rfl) ?_)
    refine (K _ ⟨p0, c0, p1, c1, p2, c2, rfl, h0.below B0, h1.below B0, h2.below B0⟩).mono ?_
    rintro e w1 ⟨rfl, hb1⟩
    replace X0 := X0.keep hb1
    replace B0 : Below w.heap.size w w1 := B0.trans (hb1.mono B0.size)
    go_wp2
    go_ret
    exact ⟨rfl, B0⟩
end Go.Proofs.YtepobckhfodngaoGreat
