/-
  Contracts of chapters 5 and 6: may an owner give, on this net.
-/
import Derived.Test.YtepobckhfodngaoGreatJnZ
namespace Go.Proofs.YtepobckhfodngaoGreat
open Go.ChangeShapes Go.WideShapes Go.ChangeAt Go.RowKit
set_option linter.unusedVariables false
def ownC (x : MNet) (o : Int) : Int := if quietC x = 0 then (if 0 ≤ o ∧ o ≤ 3 then 0 else 3) else quietC x
theorem ownC_fault {x : MNet} {o : Int} (h : quietC x ≠ 0) : ownC x o = quietC x := if_neg h
theorem ownC_out {x : MNet} {o : Int} (h : quietC x = 0) (k : ¬ (0 ≤ o ∧ o ≤ 3)) : ownC x o = 3 := by unfold ownC; rw [if_pos h, if_neg k]
theorem ownC_in {x : MNet} {o : Int} (h : quietC x = 0) (k : 0 ≤ o ∧ o ≤ 3) : ownC x o = 0 := by unfold ownC; rw [if_pos h, if_pos k]
set_option maxHeartbeats 2000000 in
theorem spec_l5Free (b : Nat) (x : MNet) (p0 p1 p2 : Option Addr) (c0 c1 c2 : Nat) (w : World) (hb : Blk w b 41 #[.slice p0 x.xTape.length c0, .slice p1 x.xUsed.length c1, .int .i64 x.xSent, .slice p2 x.xHeard.length c2, .int .i64 x.xCheat.xWho, .int .i64 x.xCheat.xAt, .int .i64 x.xCheat.xBy, .bool x.xCheat.xCry, .bool x.xQuarrel.xSome, .int .i64 x.xQuarrel.xFrom, .int .i64 x.xQuarrel.xCheck, .int .i64 x.xQuarrel.xTo, .int .i64 x.xQuarrel.xTold, .int .i64 x.xQuarrel.xHeard, .int .i64 x.xQuarrel.xOther, .int .i64 x.xQuarrel.xVowed]) (h0 : ReadsM w (.slice p0 x.xTape.length c0) x.xTape) (h1 : Reads w .i64 (.slice p1 x.xUsed.length c1) x.xUsed) (h2 : ReadsM w (.slice p2 x.xHeard.length c2) x.xHeard) :
    Calls Tryz.prog 54 #[.pointer (some ⟨b, 0, none⟩)] w fun e w' => e = .returned (.int .i64 (quietC x)) ∧ w = w' := by
  have K := spec_l4Fault b x p0 p1 p2 c0 c1 c2 w hb h0 h1 h2
  have xl := hb.lt
  clear h0 h1 h2
  by_cases k0 : netC x = 0
  · rw [k0] at K
    cases k1 : x.xQuarrel.xSome
    · rw [show quietC x = 0 by unfold quietC; rw [if_pos k0, if_neg (by simp [k1])]]
      rw [k1] at hb
      have xa := hb.at.1
      clear k0 k1
      go_enter Tryz.func54, Tryz.ntmps54
      go_wp2_with fail
      refine K.mono ?_
      rintro e w' ⟨rfl, rfl⟩
      go_wp2
      go_ret
      exact ⟨rfl, rfl⟩
    · rw [show quietC x = 6 by unfold quietC; rw [if_pos k0, if_pos k1]]
      rw [k1] at hb
      have xa := hb.at.1
      clear k0 k1
      go_enter Tryz.func54, Tryz.ntmps54
      go_wp2_with fail
      refine K.mono ?_
      rintro e w' ⟨rfl, rfl⟩
      go_wp2
      go_ret
      exact ⟨rfl, rfl⟩
  · rw [show quietC x = netC x from if_neg k0]
    have hne : (netC x != 0) = true := by simpa using k0
    generalize netC x = r at *
    clear k0
    go_enter Tryz.func54, Tryz.ntmps54
    go_wp2_with fail
    refine K.mono ?_
    rintro e w' ⟨rfl, rfl⟩
    go_wp2
    go_ret
    exact ⟨rfl, rfl⟩
end Go.Proofs.YtepobckhfodngaoGreat
