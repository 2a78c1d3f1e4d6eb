/-
  FnJudges answers true whatever bytes it draws from: who is trusted is none of the two that are told apart.
-/
import Derived.Test.YtadppilldijijabDraw4b
import Derived.Test.YtadppilldijijabJnT
import Derived.Test.YtadppilldijijabLw
import Derived.Deep.RegionHeld3
import Derived.Deep.CutRange
import Derived.Deep.Cut
import Derived.Deep.RegionWith
import Derived.ShutString
import Derived.ChangeOld
import Derived.Below
namespace Go.Proofs.Ytadppilldijijab.fnJudges
open Go.ChangeShapes Go.WideShapes Go.ChangeAt Go.RowKit
open Go.ChangeMaps (open_string shut_string)
set_option linter.unusedVariables false

theorem own : ownKnob Try.prog.godebug = none := by kernel_rfl
theorem laidOut : laidOutB Try.prog = true := by kernel_rfl

theorem fieldNR_0 (x0 x1 x2 x3 x4 x5 x6 x7 x8 x9 y0 y1 y2 y3 y4 y5 y6 y7 : Value) (w : World) : (Instr.field 50 (.agg #[x0, x1, x2, x3, x4, x5, x6, x7, x8, x9, y0, y1, y2, y3, y4, y5, y6, y7]) 0).run Try.prog w = .ok x0 w := by kernel_rfl
theorem fieldPR_0 (x y z : Value) (w : World) : (Instr.field 54 (.agg #[x, y, z]) 0).run Try.prog w = .ok x w := by kernel_rfl
theorem sl_le901 : ∀ xs : List (List Int), (∀ j, (xs.getD j []).length ≤ 901) → sl xs ≤ 901 * xs.length
  | [], _ => by simp [sl]
  | x :: r, h => by
    have h0 : x.length ≤ 901 := by simpa using h 0
    have h1 := sl_le901 r (fun j => by simpa using h (j + 1))
    simp only [sl, List.length_cons]
    omega
theorem tot_B {xs : List (List Int)} (h : TapeB xs) : tot xs ≤ 1048576 := by
  have := sl_le901 xs h.2
  have := h.1
  rw [tot_eq]
  have : 901 * xs.length ≤ 901 * 4 := Nat.mul_le_mul_left _ h.1
  omega
theorem newR_zero {xs : List (List Int)} {c : MCheat} (h : (newR xs c).xCode = 0) : newR xs c = ⟨0, 0, freshN xs c⟩ ∧ netC (freshN xs c) = 0 := by
  unfold newR at h ⊢
  by_cases h0 : tapeC xs = 0
  · rw [if_pos h0] at h ⊢
    by_cases h1 : cheatC c = 0
    · rw [if_pos h1]
      refine ⟨rfl, ?_⟩
      unfold netC
      rw [if_pos (show tapeC (freshN xs c).xTape = 0 from h0), if_pos (by exact ⟨rfl, rfl⟩), if_pos (by rw [listsB_iff]; exact ⟨show okN [0, 0, 0, 0] = true by decide, show okM [[], [], [], []] = true by decide, by show (0 : Int) ≤ 0; omega, by show (0 : Int) ≤ 99999; omega⟩)]
      exact h1
    · rw [if_neg h1] at h
      exact absurd h h1
  · rw [if_neg h0] at h
    exact absurd h h0
def at3 (z : MQuarrel) (k : Nat) : Int := if k = 0 then z.xFrom else if k = 1 then z.xCheck else z.xTo
def hit (P : MPairResult) (v : Int) : Int := if v = P.xFirst ∨ v = P.xSecond then 1 else 0
def hits (P : MPairResult) (z : MQuarrel) : Nat → Int
  | 0 => 0
  | k + 1 => hits P z k + hit P (at3 z k)
theorem hits_le (P : MPairResult) (z : MQuarrel) : ∀ k, 0 ≤ hits P z k ∧ hits P z k ≤ k
  | 0 => ⟨Int.le_refl _, Int.le_refl _⟩
  | k + 1 => by have := hits_le P z k; unfold hits hit; split <;> omega
theorem judged {z : MQuarrel} (h : (judgeR z).xCode = 0) : (judgeR z).xFirst < (judgeR z).xSecond ∧ (trustR z).xCode = 0 ∧ (trustR z).xValue ≠ (judgeR z).xFirst ∧ (trustR z).xValue ≠ (judgeR z).xSecond ∧ (0 ≤ (trustR z).xValue ∧ (trustR z).xValue < 4) ∧ hit (judgeR z) z.xFrom + hit (judgeR z) z.xCheck + hit (judgeR z) z.xTo = 2 := by
  obtain ⟨hs, h3⟩ := judgeR_some h
  rw [trustR_yes h]
  obtain ⟨e1, e2⟩ := judgeR_pair h
  unfold hit
  rw [e1, e2]
  obtain ⟨_, _, _, d1, d2, d3⟩ := h3
  have hA : qA z = z.xFrom ∨ qA z = z.xTo := by unfold qA; split <;> simp
  have hB : (qB z = z.xCheck) ∨ (qB z = z.xFrom ∧ qA z = z.xTo) := by
    unfold qB qA
    split
    · exact .inl rfl
    · rename_i k
      refine .inr ⟨rfl, if_neg (fun k' => k ⟨k'.1, .inr k'.2.2⟩)⟩
  unfold mn mx low
  generalize qA z = A at *
  generalize qB z = B at *
  dsimp only
  rcases hB with hB | ⟨hB, hB'⟩
  · rcases hA with hA | hA
    · subst hA hB; refine ⟨?_, rfl, ?_, ?_, ?_, ?_⟩ <;> (repeat' split) <;> omega
    · subst hA hB; refine ⟨?_, rfl, ?_, ?_, ?_, ?_⟩ <;> (repeat' split) <;> omega
  · subst hB hB'; refine ⟨?_, rfl, ?_, ?_, ?_, ?_⟩ <;> (repeat' split) <;> omega
set_option maxHeartbeats 16000000 in
set_option maxRecDepth 100000 in
theorem walk (a0 : Option Addr) (len0 cap0 : Nat) (z0 : List Int) (w : World) (w0 : IsRow .u8 w a0 len0 cap0 z0) :
    Calls Try.prog 5 #[.slice a0 len0 cap0] w fun e w' => e = .returned (.bool true) ∧ Below w.heap.size w w' := by
  obtain ⟨zs, rfl, hr, hw⟩ := w0.reads
  clear w0
  have hby := bytes_of hw
  clear hw
  by_cases hl : 1048576 < zs.length
  · go_enter Try.func5, Try.ntmps5
    go_wp2_with fail
    refine (lwBig_yes _ _ _ _ hl).mono ?_
    rintro e w' ⟨rfl, rfl⟩
    go_wp2
    go_ret
    exact ⟨rfl, Below.refl _ _⟩
  · have hl' : zs.length ≤ 1048576 := by omega
    have HR0 : Hid (Reads w .u8 (.slice a0 zs.length cap0) zs) := hr
    clear hr
    have fn0 := fieldNR_0
    have fp0 := fieldPR_0
    have fi0 := field_0
    have fi1 := field_1
    go_enter Try.func5, Try.ntmps5
    go_wp2_with fail
    refine (lwBig_no _ _ _ _ hl').mono ?_
    rintro e w' ⟨rfl, rfl⟩
    go_wp2_with fail
    refine (spec_DrawJudgeQuarrel a0 cap0 zs w HR0.out hl' hby).mono ?_
    rintro e w1 ⟨z, rfl, B⟩
    have HJ : Hid ((judgeR z).xCode = 0 → _) := judged (z := z)
    have HK : Hid ((judgeR z).xCode ≠ 0 → trustR z = ⟨(judgeR z).xCode, 0⟩) := trustR_no (z := z)
    have KP := fun W h => impl_JudgeQuarrel (.agg #[.bool z.xSome, .int .i64 z.xFrom, .int .i64 z.xCheck, .int .i64 z.xTo, .int .i64 z.xTold, .int .i64 z.xHeard, .int .i64 z.xOther, .int .i64 z.xVowed]) z W h
    have KQ := fun W h => impl_TrustedOf (.agg #[.bool z.xSome, .int .i64 z.xFrom, .int .i64 z.xCheck, .int .i64 z.xTo, .int .i64 z.xTold, .int .i64 z.xHeard, .int .i64 z.xOther, .int .i64 z.xVowed]) z W h
    have KPS := fun W h => spec_JudgeQuarrel (.agg #[.bool z.xSome, .int .i64 z.xFrom, .int .i64 z.xCheck, .int .i64 z.xTo, .int .i64 z.xTold, .int .i64 z.xHeard, .int .i64 z.xOther, .int .i64 z.xVowed]) z W h
    have KQS := fun W h => spec_TrustedOf (.agg #[.bool z.xSome, .int .i64 z.xFrom, .int .i64 z.xCheck, .int .i64 z.xTo, .int .i64 z.xTold, .int .i64 z.xHeard, .int .i64 z.xOther, .int .i64 z.xVowed]) z W h
    generalize judgeR z = P at *
    generalize trustR z = Q at *
    go_wp2_with fail
    have XZ := Blk.new w1 44 #[.bool z.xSome, .int .i64 z.xFrom, .int .i64 z.xCheck, .int .i64 z.xTo, .int .i64 z.xTold, .int .i64 z.xHeard, .int .i64 z.xOther, .int .i64 z.xVowed]
    replace B := B.alloc B.size (.cells #[.bool z.xSome, .int .i64 z.xFrom, .int .i64 z.xCheck, .int .i64 z.xTo, .int .i64 z.xTold, .int .i64 z.xHeard, .int .i64 z.xOther, .int .i64 z.xVowed] 44)
    generalize w1.heap.size = b3 at *
    refine Calls.at (F := fun V => Blk V b3 44 #[.bool z.xSome, .int .i64 z.xFrom, .int .i64 z.xCheck, .int .i64 z.xTo, .int .i64 z.xTold, .int .i64 z.xHeard, .int .i64 z.xOther, .int .i64 z.xVowed] ∧ Below w.heap.size w V) ⟨XZ, B⟩ ?_
    clear XZ B
    rintro V1 ⟨XZ, B⟩
    refine (KP _ rfl).mono ?_
    rintro e w2 ⟨u4, rfl, hu4, k2⟩
    unfold RdPairResult at hu4
    subst hu4
    replace XZ := XZ.keep k2
    replace B := B.trans (k2.mono B.size)
    clear k2
    have XZa := XZ.at.1
    have XZl := XZ.lt
    go_wp2_with fail
    clear XZa XZl
    have XP := Blk.new w2 54 #[.int .i64 P.xCode, .int .i64 P.xFirst, .int .i64 P.xSecond]
    replace XZ := XZ.alloc (.cells #[.int .i64 P.xCode, .int .i64 P.xFirst, .int .i64 P.xSecond] 54)
    replace B := B.alloc B.size (.cells #[.int .i64 P.xCode, .int .i64 P.xFirst, .int .i64 P.xSecond] 54)
    generalize w2.heap.size = b4 at *
    refine Calls.at (F := fun V => Blk V b3 44 #[.bool z.xSome, .int .i64 z.xFrom, .int .i64 z.xCheck, .int .i64 z.xTo, .int .i64 z.xTold, .int .i64 z.xHeard, .int .i64 z.xOther, .int .i64 z.xVowed] ∧ Blk V b4 54 #[.int .i64 P.xCode, .int .i64 P.xFirst, .int .i64 P.xSecond] ∧ Below w.heap.size w V) ⟨XZ, XP, B⟩ ?_
    clear XZ XP B
    rintro V3 ⟨XZ, XP, B⟩
    refine (KQ _ rfl).mono ?_
    rintro e w4 ⟨u5, rfl, hu5, k4⟩
    unfold RdIntResult at hu5
    subst hu5
    replace XZ := XZ.keep k4
    replace XP := XP.keep k4
    replace B := B.trans (k4.mono B.size)
    clear k4
    clear KP KQ
    go_wp2_with fail
    have XT := Blk.new w4 35 #[.int .i64 Q.xCode, .int .i64 Q.xValue]
    replace XZ := XZ.alloc (.cells #[.int .i64 Q.xCode, .int .i64 Q.xValue] 35)
    replace XP := XP.alloc (.cells #[.int .i64 Q.xCode, .int .i64 Q.xValue] 35)
    replace B := B.alloc B.size (.cells #[.int .i64 Q.xCode, .int .i64 Q.xValue] 35)
    generalize w4.heap.size = b5 at *
    refine Calls.at (F := fun V => Blk V b3 44 #[.bool z.xSome, .int .i64 z.xFrom, .int .i64 z.xCheck, .int .i64 z.xTo, .int .i64 z.xTold, .int .i64 z.xHeard, .int .i64 z.xOther, .int .i64 z.xVowed] ∧ Blk V b4 54 #[.int .i64 P.xCode, .int .i64 P.xFirst, .int .i64 P.xSecond] ∧ Blk V b5 35 #[.int .i64 Q.xCode, .int .i64 Q.xValue] ∧ Below w.heap.size w V) ⟨XZ, XP, XT, B⟩ ?_
    clear XZ XP XT B
    rintro V5 ⟨XZ, XP, XT, B⟩
    refine (spec_DrawNewNet a0 cap0 zs _ (HR0.out.below B) hl' hby).mono ?_
    rintro e w6 ⟨p, c, xs, ch, rfl, rX, hTB, k6⟩
    have HTB : Hid (tot xs ≤ 1048576) := tot_B hTB
    clear hTB
    replace XZ := XZ.keep k6
    replace XP := XP.keep k6
    replace XT := XT.keep k6
    replace B := B.trans (k6.mono B.size)
    clear k6
    have HN : Hid ((newR xs ch).xCode = 0 → newR xs ch = ⟨0, 0, freshN xs ch⟩ ∧ netC (freshN xs ch) = 0) := newR_zero
    have KN := fun W h k => impl_NewNet (.agg #[.slice p xs.length c]) xs (.agg #[.int .i64 ch.xWho, .int .i64 ch.xAt, .int .i64 ch.xBy, .bool ch.xCry]) ch W h k HTB.out
    have KNS := fun W h k => spec_NewNet (.agg #[.slice p xs.length c]) xs (.agg #[.int .i64 ch.xWho, .int .i64 ch.xAt, .int .i64 ch.xBy, .bool ch.xCry]) ch W h k HTB.out
    generalize newR xs ch = N at *
    go_wp2_with fail
    have XX := (Blk.new w6 40 #[.slice p xs.length c]).alloc (.cells #[.int .i64 ch.xWho, .int .i64 ch.xAt, .int .i64 ch.xBy, .bool ch.xCry] 42)
    have XC : Blk ((w6.alloc (.cells #[.slice p xs.length c] 40)).alloc (.cells #[.int .i64 ch.xWho, .int .i64 ch.xAt, .int .i64 ch.xBy, .bool ch.xCry] 42)) (w6.heap.size + 1) 42 #[.int .i64 ch.xWho, .int .i64 ch.xAt, .int .i64 ch.xBy, .bool ch.xCry] := by simpa using Blk.new (w6.alloc (.cells #[.slice p xs.length c] 40)) 42 #[.int .i64 ch.xWho, .int .i64 ch.xAt, .int .i64 ch.xBy, .bool ch.xCry]
    replace XZ := XZ.alloc (.cells #[.slice p xs.length c] 40)
    replace XP := XP.alloc (.cells #[.slice p xs.length c] 40)
    replace XT := XT.alloc (.cells #[.slice p xs.length c] 40)
    replace rX := rX.below ((Below.refl _ _).alloc (Nat.le_refl _) (.cells #[.slice p xs.length c] 40))
    replace B := B.alloc B.size (.cells #[.slice p xs.length c] 40)
    replace XZ := XZ.alloc (.cells #[.int .i64 ch.xWho, .int .i64 ch.xAt, .int .i64 ch.xBy, .bool ch.xCry] 42)
    replace XP := XP.alloc (.cells #[.int .i64 ch.xWho, .int .i64 ch.xAt, .int .i64 ch.xBy, .bool ch.xCry] 42)
    replace XT := XT.alloc (.cells #[.int .i64 ch.xWho, .int .i64 ch.xAt, .int .i64 ch.xBy, .bool ch.xCry] 42)
    replace rX := rX.below ((Below.refl _ _).alloc (Nat.le_refl _) (.cells #[.int .i64 ch.xWho, .int .i64 ch.xAt, .int .i64 ch.xBy, .bool ch.xCry] 42))
    replace B := B.alloc B.size (.cells #[.int .i64 ch.xWho, .int .i64 ch.xAt, .int .i64 ch.xBy, .bool ch.xCry] 42)
    generalize hb6 : w6.heap.size = b6 at *
    generalize hb7 : b6 + 1 = b7 at *
    clear hb6 hb7
    refine Calls.at (F := fun V => Blk V b3 44 #[.bool z.xSome, .int .i64 z.xFrom, .int .i64 z.xCheck, .int .i64 z.xTo, .int .i64 z.xTold, .int .i64 z.xHeard, .int .i64 z.xOther, .int .i64 z.xVowed] ∧ Blk V b4 54 #[.int .i64 P.xCode, .int .i64 P.xFirst, .int .i64 P.xSecond] ∧ Blk V b5 35 #[.int .i64 Q.xCode, .int .i64 Q.xValue] ∧ Blk V b6 40 #[.slice p xs.length c] ∧ Blk V b7 42 #[.int .i64 ch.xWho, .int .i64 ch.xAt, .int .i64 ch.xBy, .bool ch.xCry] ∧ ReadsM V (.slice p xs.length c) xs ∧ Below w.heap.size w V) ⟨XZ, XP, XT, XX, XC, rX, B⟩ ?_
    clear XZ XP XT XX XC rX B
    rintro V7 ⟨XZ, XP, XT, XX, XC, rX, B⟩
    refine (KN _ ⟨_, _, rfl, rX⟩ rfl).mono ?_
    rintro e w8 ⟨u8, bb0, bb1, bb2, rfl, ON, -, -, -, k8⟩
    obtain ⟨p0, c0, p1, c1, p2, c2, rfl, m0, m1, m2, -⟩ := ON
    have rN : RdNet w8 (.agg #[.slice p0 N.xNet.xTape.length c0, .slice p1 N.xNet.xUsed.length c1, .int .i64 N.xNet.xSent, .slice p2 N.xNet.xHeard.length c2, .int .i64 N.xNet.xCheat.xWho, .int .i64 N.xNet.xCheat.xAt, .int .i64 N.xNet.xCheat.xBy, .bool N.xNet.xCheat.xCry, .bool N.xNet.xQuarrel.xSome, .int .i64 N.xNet.xQuarrel.xFrom, .int .i64 N.xNet.xQuarrel.xCheck, .int .i64 N.xNet.xQuarrel.xTo, .int .i64 N.xNet.xQuarrel.xTold, .int .i64 N.xNet.xQuarrel.xHeard, .int .i64 N.xNet.xQuarrel.xOther, .int .i64 N.xNet.xQuarrel.xVowed]) N.xNet := ⟨p0, c0, p1, c1, p2, c2, rfl, m0.reads, Ints.reads m1, m2.reads⟩
    clear m0 m1 m2 KN
    replace XZ := XZ.keep k8
    replace XP := XP.keep k8
    replace XT := XT.keep k8
    replace XX := XX.keep k8
    replace XC := XC.keep k8
    replace rX := rX.below k8
    replace B := B.trans (k8.mono B.size)
    clear k8
    go_wp2_with fail
    have XN := Blk.new w8 50 #[.int .i64 N.xCode, .int .i64 N.xValue, .slice p0 N.xNet.xTape.length c0, .slice p1 N.xNet.xUsed.length c1, .int .i64 N.xNet.xSent, .slice p2 N.xNet.xHeard.length c2, .int .i64 N.xNet.xCheat.xWho, .int .i64 N.xNet.xCheat.xAt, .int .i64 N.xNet.xCheat.xBy, .bool N.xNet.xCheat.xCry, .bool N.xNet.xQuarrel.xSome, .int .i64 N.xNet.xQuarrel.xFrom, .int .i64 N.xNet.xQuarrel.xCheck, .int .i64 N.xNet.xQuarrel.xTo, .int .i64 N.xNet.xQuarrel.xTold, .int .i64 N.xNet.xQuarrel.xHeard, .int .i64 N.xNet.xQuarrel.xOther, .int .i64 N.xNet.xQuarrel.xVowed]
    replace XZ := XZ.alloc (.cells #[.int .i64 N.xCode, .int .i64 N.xValue, .slice p0 N.xNet.xTape.length c0, .slice p1 N.xNet.xUsed.length c1, .int .i64 N.xNet.xSent, .slice p2 N.xNet.xHeard.length c2, .int .i64 N.xNet.xCheat.xWho, .int .i64 N.xNet.xCheat.xAt, .int .i64 N.xNet.xCheat.xBy, .bool N.xNet.xCheat.xCry, .bool N.xNet.xQuarrel.xSome, .int .i64 N.xNet.xQuarrel.xFrom, .int .i64 N.xNet.xQuarrel.xCheck, .int .i64 N.xNet.xQuarrel.xTo, .int .i64 N.xNet.xQuarrel.xTold, .int .i64 N.xNet.xQuarrel.xHeard, .int .i64 N.xNet.xQuarrel.xOther, .int .i64 N.xNet.xQuarrel.xVowed] 50)
    replace XP := XP.alloc (.cells #[.int .i64 N.xCode, .int .i64 N.xValue, .slice p0 N.xNet.xTape.length c0, .slice p1 N.xNet.xUsed.length c1, .int .i64 N.xNet.xSent, .slice p2 N.xNet.xHeard.length c2, .int .i64 N.xNet.xCheat.xWho, .int .i64 N.xNet.xCheat.xAt, .int .i64 N.xNet.xCheat.xBy, .bool N.xNet.xCheat.xCry, .bool N.xNet.xQuarrel.xSome, .int .i64 N.xNet.xQuarrel.xFrom, .int .i64 N.xNet.xQuarrel.xCheck, .int .i64 N.xNet.xQuarrel.xTo, .int .i64 N.xNet.xQuarrel.xTold, .int .i64 N.xNet.xQuarrel.xHeard, .int .i64 N.xNet.xQuarrel.xOther, .int .i64 N.xNet.xQuarrel.xVowed] 50)
    replace XT := XT.alloc (.cells #[.int .i64 N.xCode, .int .i64 N.xValue, .slice p0 N.xNet.xTape.length c0, .slice p1 N.xNet.xUsed.length c1, .int .i64 N.xNet.xSent, .slice p2 N.xNet.xHeard.length c2, .int .i64 N.xNet.xCheat.xWho, .int .i64 N.xNet.xCheat.xAt, .int .i64 N.xNet.xCheat.xBy, .bool N.xNet.xCheat.xCry, .bool N.xNet.xQuarrel.xSome, .int .i64 N.xNet.xQuarrel.xFrom, .int .i64 N.xNet.xQuarrel.xCheck, .int .i64 N.xNet.xQuarrel.xTo, .int .i64 N.xNet.xQuarrel.xTold, .int .i64 N.xNet.xQuarrel.xHeard, .int .i64 N.xNet.xQuarrel.xOther, .int .i64 N.xNet.xQuarrel.xVowed] 50)
    replace XX := XX.alloc (.cells #[.int .i64 N.xCode, .int .i64 N.xValue, .slice p0 N.xNet.xTape.length c0, .slice p1 N.xNet.xUsed.length c1, .int .i64 N.xNet.xSent, .slice p2 N.xNet.xHeard.length c2, .int .i64 N.xNet.xCheat.xWho, .int .i64 N.xNet.xCheat.xAt, .int .i64 N.xNet.xCheat.xBy, .bool N.xNet.xCheat.xCry, .bool N.xNet.xQuarrel.xSome, .int .i64 N.xNet.xQuarrel.xFrom, .int .i64 N.xNet.xQuarrel.xCheck, .int .i64 N.xNet.xQuarrel.xTo, .int .i64 N.xNet.xQuarrel.xTold, .int .i64 N.xNet.xQuarrel.xHeard, .int .i64 N.xNet.xQuarrel.xOther, .int .i64 N.xNet.xQuarrel.xVowed] 50)
    replace XC := XC.alloc (.cells #[.int .i64 N.xCode, .int .i64 N.xValue, .slice p0 N.xNet.xTape.length c0, .slice p1 N.xNet.xUsed.length c1, .int .i64 N.xNet.xSent, .slice p2 N.xNet.xHeard.length c2, .int .i64 N.xNet.xCheat.xWho, .int .i64 N.xNet.xCheat.xAt, .int .i64 N.xNet.xCheat.xBy, .bool N.xNet.xCheat.xCry, .bool N.xNet.xQuarrel.xSome, .int .i64 N.xNet.xQuarrel.xFrom, .int .i64 N.xNet.xQuarrel.xCheck, .int .i64 N.xNet.xQuarrel.xTo, .int .i64 N.xNet.xQuarrel.xTold, .int .i64 N.xNet.xQuarrel.xHeard, .int .i64 N.xNet.xQuarrel.xOther, .int .i64 N.xNet.xQuarrel.xVowed] 50)
    replace rX := rX.below ((Below.refl _ _).alloc (Nat.le_refl _) (.cells #[.int .i64 N.xCode, .int .i64 N.xValue, .slice p0 N.xNet.xTape.length c0, .slice p1 N.xNet.xUsed.length c1, .int .i64 N.xNet.xSent, .slice p2 N.xNet.xHeard.length c2, .int .i64 N.xNet.xCheat.xWho, .int .i64 N.xNet.xCheat.xAt, .int .i64 N.xNet.xCheat.xBy, .bool N.xNet.xCheat.xCry, .bool N.xNet.xQuarrel.xSome, .int .i64 N.xNet.xQuarrel.xFrom, .int .i64 N.xNet.xQuarrel.xCheck, .int .i64 N.xNet.xQuarrel.xTo, .int .i64 N.xNet.xQuarrel.xTold, .int .i64 N.xNet.xQuarrel.xHeard, .int .i64 N.xNet.xQuarrel.xOther, .int .i64 N.xNet.xQuarrel.xVowed] 50))
    replace rN := rN.below ((Below.refl _ _).alloc (Nat.le_refl _) (.cells #[.int .i64 N.xCode, .int .i64 N.xValue, .slice p0 N.xNet.xTape.length c0, .slice p1 N.xNet.xUsed.length c1, .int .i64 N.xNet.xSent, .slice p2 N.xNet.xHeard.length c2, .int .i64 N.xNet.xCheat.xWho, .int .i64 N.xNet.xCheat.xAt, .int .i64 N.xNet.xCheat.xBy, .bool N.xNet.xCheat.xCry, .bool N.xNet.xQuarrel.xSome, .int .i64 N.xNet.xQuarrel.xFrom, .int .i64 N.xNet.xQuarrel.xCheck, .int .i64 N.xNet.xQuarrel.xTo, .int .i64 N.xNet.xQuarrel.xTold, .int .i64 N.xNet.xQuarrel.xHeard, .int .i64 N.xNet.xQuarrel.xOther, .int .i64 N.xNet.xQuarrel.xVowed] 50))
    replace B := B.alloc B.size (.cells #[.int .i64 N.xCode, .int .i64 N.xValue, .slice p0 N.xNet.xTape.length c0, .slice p1 N.xNet.xUsed.length c1, .int .i64 N.xNet.xSent, .slice p2 N.xNet.xHeard.length c2, .int .i64 N.xNet.xCheat.xWho, .int .i64 N.xNet.xCheat.xAt, .int .i64 N.xNet.xCheat.xBy, .bool N.xNet.xCheat.xCry, .bool N.xNet.xQuarrel.xSome, .int .i64 N.xNet.xQuarrel.xFrom, .int .i64 N.xNet.xQuarrel.xCheck, .int .i64 N.xNet.xQuarrel.xTo, .int .i64 N.xNet.xQuarrel.xTold, .int .i64 N.xNet.xQuarrel.xHeard, .int .i64 N.xNet.xQuarrel.xOther, .int .i64 N.xNet.xQuarrel.xVowed] 50)
    generalize hw8 : w8.heap.size = b8 at *
    clear hw8
    generalize w8.alloc (.cells #[.int .i64 N.xCode, .int .i64 N.xValue, .slice p0 N.xNet.xTape.length c0, .slice p1 N.xNet.xUsed.length c1, .int .i64 N.xNet.xSent, .slice p2 N.xNet.xHeard.length c2, .int .i64 N.xNet.xCheat.xWho, .int .i64 N.xNet.xCheat.xAt, .int .i64 N.xNet.xCheat.xBy, .bool N.xNet.xCheat.xCry, .bool N.xNet.xQuarrel.xSome, .int .i64 N.xNet.xQuarrel.xFrom, .int .i64 N.xNet.xQuarrel.xCheck, .int .i64 N.xNet.xQuarrel.xTo, .int .i64 N.xNet.xQuarrel.xTold, .int .i64 N.xNet.xQuarrel.xHeard, .int .i64 N.xNet.xQuarrel.xOther, .int .i64 N.xNet.xQuarrel.xVowed] 50) = V8 at *
    go_cut [71] from 28 (fun s wr => s = .bool false ∧ Blk wr b3 44 #[.bool z.xSome, .int .i64 z.xFrom, .int .i64 z.xCheck, .int .i64 z.xTo, .int .i64 z.xTold, .int .i64 z.xHeard, .int .i64 z.xOther, .int .i64 z.xVowed] ∧ Blk wr b4 54 #[.int .i64 P.xCode, .int .i64 P.xFirst, .int .i64 P.xSecond] ∧ Blk wr b5 35 #[.int .i64 Q.xCode, .int .i64 Q.xValue] ∧ Below w.heap.size w wr)
    case first =>
      as_aux_lemma =>
        have ec : (cheatC ch != cheatC ch) = false := by simp
        have KCI := fun W => impl_CheatFault (.agg #[.int .i64 ch.xWho, .int .i64 ch.xAt, .int .i64 ch.xBy, .bool ch.xCry]) ch W rfl
        have KCS := fun W => spec_CheatFault (.agg #[.int .i64 ch.xWho, .int .i64 ch.xAt, .int .i64 ch.xBy, .bool ch.xCry]) ch W rfl
        generalize cheatC ch = cc at *
        by_cases hj : N.xCode = 0
        · as_aux_lemma =>
            obtain ⟨hN1, hN2⟩ := HN.out hj
            subst hN1
            clear hj
            dsimp only [freshN] at KNS
            have XN2 : Blk V8 b8 50 #[.int .i64 0, .int .i64 0, .slice p0 xs.length c0, .slice p1 4 c1, .int .i64 0, .slice p2 4 c2, .int .i64 ch.xWho, .int .i64 ch.xAt, .int .i64 ch.xBy, .bool ch.xCry, .bool false, .int .i64 0, .int .i64 0, .int .i64 0, .int .i64 0, .int .i64 0, .int .i64 0, .int .i64 0] := XN
            have rN2 : RdNet V8 (.agg #[.slice p0 xs.length c0, .slice p1 4 c1, .int .i64 0, .slice p2 4 c2, .int .i64 ch.xWho, .int .i64 ch.xAt, .int .i64 ch.xBy, .bool ch.xCry, .bool false, .int .i64 0, .int .i64 0, .int .i64 0, .int .i64 0, .int .i64 0, .int .i64 0, .int .i64 0]) (freshN xs ch) := rN
            clear XN rN
            have KF := fun W h => impl_NetFault (.agg #[.slice p0 xs.length c0, .slice p1 4 c1, .int .i64 0, .slice p2 4 c2, .int .i64 ch.xWho, .int .i64 ch.xAt, .int .i64 ch.xBy, .bool ch.xCry, .bool false, .int .i64 0, .int .i64 0, .int .i64 0, .int .i64 0, .int .i64 0, .int .i64 0, .int .i64 0]) (freshN xs ch) W h
            rw [hN2] at KF
            clear hN2
            refine wp_region_held (S := fun V => (∀ o, V.cell? ⟨b6, o, none⟩ = (#[.slice p xs.length c] : Array Value)[o]?) ∧ (∀ o, V.cell? ⟨b7, o, none⟩ = (#[.int .i64 ch.xWho, .int .i64 ch.xAt, .int .i64 ch.xBy, .bool ch.xCry] : Array Value)[o]?) ∧ (∀ o, V.cell? ⟨b8, o, none⟩ = (#[.int .i64 0, .int .i64 0, .slice p0 xs.length c0, .slice p1 4 c1, .int .i64 0, .slice p2 4 c2, .int .i64 ch.xWho, .int .i64 ch.xAt, .int .i64 ch.xBy, .bool ch.xCry, .bool false, .int .i64 0, .int .i64 0, .int .i64 0, .int .i64 0, .int .i64 0, .int .i64 0, .int .i64 0] : Array Value)[o]?)) (by kernel_rfl) ?_
            try (change wpAnyH _ _ _ _ _ _ _ _ (World.drew _))
            replace XZ := XZ.drew
            replace XP := XP.drew
            replace XT := XT.drew
            replace XX := XX.drew
            replace XC := XC.drew
            replace XN2 := XN2.drew
            replace rX := rX.below (Below.refl _ _).drew
            replace rN2 := rN2.below (Below.refl _ _).drew
            replace B := B.drew
            have hS : (∀ o, V8.drew.cell? ⟨b6, o, none⟩ = (#[.slice p xs.length c] : Array Value)[o]?) ∧ (∀ o, V8.drew.cell? ⟨b7, o, none⟩ = (#[.int .i64 ch.xWho, .int .i64 ch.xAt, .int .i64 ch.xBy, .bool ch.xCry] : Array Value)[o]?) ∧ (∀ o, V8.drew.cell? ⟨b8, o, none⟩ = (#[.int .i64 0, .int .i64 0, .slice p0 xs.length c0, .slice p1 4 c1, .int .i64 0, .slice p2 4 c2, .int .i64 ch.xWho, .int .i64 ch.xAt, .int .i64 ch.xBy, .bool ch.xCry, .bool false, .int .i64 0, .int .i64 0, .int .i64 0, .int .i64 0, .int .i64 0, .int .i64 0, .int .i64 0] : Array Value)[o]?) := ⟨XX.at.1, XC.at.1, XN2.at.1⟩
            refine wpAnyH_take (i := 0) (v := ?vn68) rfl (by kernel_rfl) (by kernel_rfl) (by kernel_rfl) (fun _ _ _ h => h) (Or.inl ⟨by rfl, ?hn68⟩) hS ?rn68
            case hn68 => intro w' hSw; go_simp; (try with_reducible rfl)
            (try simp only [List.getElem_toArray]); (try simp only [List.getElem_cons_succ]); (try simp only [List.getElem_cons_zero]); (try simp only [Act.put]); (try simp only [List.setIfInBounds_toArray]); (try simp only [List.set_cons_succ]); (try simp only [List.set_cons_zero])
            refine wpAnyH_take (i := 1) (v := ?vn69) rfl (by kernel_rfl) (by kernel_rfl) (by kernel_rfl) (fun _ _ _ h => h) (Or.inl ⟨by rfl, ?hn69⟩) hS ?rn69
            case hn69 => intro w' hSw; go_simp; (try with_reducible rfl)
            (try simp only [List.getElem_toArray]); (try simp only [List.getElem_cons_succ]); (try simp only [List.getElem_cons_zero]); (try simp only [Act.put]); (try simp only [List.setIfInBounds_toArray]); (try simp only [List.set_cons_succ]); (try simp only [List.set_cons_zero])
            refine wpAnyH_take (i := 2) (v := ?vn70) rfl (by kernel_rfl) (by kernel_rfl) (by kernel_rfl) (fun _ _ _ h => h) (Or.inl ⟨by rfl, ?hn70⟩) hS ?rn70
            case hn70 => intro w' hSw; go_simp; (try with_reducible rfl)
            (try simp only [List.getElem_toArray]); (try simp only [List.getElem_cons_succ]); (try simp only [List.getElem_cons_zero]); (try simp only [Act.put]); (try simp only [List.setIfInBounds_toArray]); (try simp only [List.set_cons_succ]); (try simp only [List.set_cons_zero])
            refine wpAnyH_take (i := 3) (v := ?vn71) rfl (by kernel_rfl) (by kernel_rfl) (by kernel_rfl) (fun _ _ _ h => h) (Or.inl ⟨by rfl, ?hn71⟩) hS ?rn71
            case hn71 => intro w' hSw; go_simp; (try with_reducible rfl)
            (try simp only [List.getElem_toArray]); (try simp only [List.getElem_cons_succ]); (try simp only [List.getElem_cons_zero]); (try simp only [Act.put]); (try simp only [List.setIfInBounds_toArray]); (try simp only [List.set_cons_succ]); (try simp only [List.set_cons_zero])
            refine wpAnyH_ready (rs := [4]) (by kernel_rfl) (by simp) ?_
            refine AllReadyH.cons (o := _) rfl (fun K hK => ?_) AllReadyH.nil
            rw [if_pos (by rfl)]
            go_simp
            go_at_call 25
            clear hS
            refine (KNS _ ⟨_, _, rfl, rX⟩ rfl).mono ?_
            rintro e w9 ⟨u9, bc0, bc1, bc2, rfl, ON9, -, -, -, k9⟩
            obtain ⟨s0, t0, s1, t1, s2, t2, rfl, n0, n1, n2, -⟩ := ON9
            clear n0 n1 n2
            dsimp only [freshN]
            replace XZ := XZ.keep k9
            replace XP := XP.keep k9
            replace XT := XT.keep k9
            replace XX := XX.keep k9
            replace XC := XC.keep k9
            replace XN2 := XN2.keep k9
            replace rX := rX.below k9
            replace rN2 := rN2.below k9
            replace B := B.trans (k9.mono B.size)
            clear k9
            have hS : (∀ o, w9.cell? ⟨b6, o, none⟩ = (#[.slice p xs.length c] : Array Value)[o]?) ∧ (∀ o, w9.cell? ⟨b7, o, none⟩ = (#[.int .i64 ch.xWho, .int .i64 ch.xAt, .int .i64 ch.xBy, .bool ch.xCry] : Array Value)[o]?) ∧ (∀ o, w9.cell? ⟨b8, o, none⟩ = (#[.int .i64 0, .int .i64 0, .slice p0 xs.length c0, .slice p1 4 c1, .int .i64 0, .slice p2 4 c2, .int .i64 ch.xWho, .int .i64 ch.xAt, .int .i64 ch.xBy, .bool ch.xCry, .bool false, .int .i64 0, .int .i64 0, .int .i64 0, .int .i64 0, .int .i64 0, .int .i64 0, .int .i64 0] : Array Value)[o]?) := ⟨XX.at.1, XC.at.1, XN2.at.1⟩
            refine hK.out _ _ hS (fun hS => ?_)
            clear hK K
            (try simp only [List.getElem_toArray]); (try simp only [List.getElem_cons_succ]); (try simp only [List.getElem_cons_zero]); (try simp only [Act.put]); (try simp only [List.setIfInBounds_toArray]); (try simp only [List.set_cons_succ]); (try simp only [List.set_cons_zero])
            refine wpAnyH_take (i := 5) (v := ?vn72) rfl (by kernel_rfl) (by kernel_rfl) (by kernel_rfl) (fun _ _ _ h => h) (Or.inl ⟨by rfl, ?hn72⟩) hS ?rn72
            case hn72 => intro w' hSw; go_simp; (try with_reducible rfl)
            (try simp only [List.getElem_toArray]); (try simp only [List.getElem_cons_succ]); (try simp only [List.getElem_cons_zero]); (try simp only [Act.put]); (try simp only [List.setIfInBounds_toArray]); (try simp only [List.set_cons_succ]); (try simp only [List.set_cons_zero])
            refine wpAnyH_take (i := 6) (v := ?vn73) rfl (by kernel_rfl) (by kernel_rfl) (by kernel_rfl) (fun _ _ _ h => h) (Or.inl ⟨by rfl, ?hn73⟩) hS ?rn73
            case hn73 => intro w' hSw; go_simp; (try with_reducible rfl)
            (try simp only [List.getElem_toArray]); (try simp only [List.getElem_cons_succ]); (try simp only [List.getElem_cons_zero]); (try simp only [Act.put]); (try simp only [List.setIfInBounds_toArray]); (try simp only [List.set_cons_succ]); (try simp only [List.set_cons_zero])
            refine wpAnyH_take (i := 7) (v := ?vn74) rfl (by kernel_rfl) (by kernel_rfl) (by kernel_rfl) (fun _ _ _ h => h) (Or.inl ⟨by rfl, ?hn74⟩) hS ?rn74
            case hn74 => intro w' hSw; go_simp; (try with_reducible rfl)
            (try simp only [List.getElem_toArray]); (try simp only [List.getElem_cons_succ]); (try simp only [List.getElem_cons_zero]); (try simp only [Act.put]); (try simp only [List.setIfInBounds_toArray]); (try simp only [List.set_cons_succ]); (try simp only [List.set_cons_zero])
            refine wpAnyH_take (i := 8) (v := ?vn75) rfl (by kernel_rfl) (by kernel_rfl) (by kernel_rfl) (fun _ _ _ h => h) (Or.inl ⟨by rfl, ?hn75⟩) hS ?rn75
            case hn75 => intro w' hSw; go_simp; (try with_reducible rfl)
            (try simp only [List.getElem_toArray]); (try simp only [List.getElem_cons_succ]); (try simp only [List.getElem_cons_zero]); (try simp only [Act.put]); (try simp only [List.setIfInBounds_toArray]); (try simp only [List.set_cons_succ]); (try simp only [List.set_cons_zero])
            refine wpAnyH_take (i := 9) (v := ?vn76) rfl (by kernel_rfl) (by kernel_rfl) (by kernel_rfl) (fun _ _ _ h => h) (Or.inl ⟨by rfl, ?hn76⟩) hS ?rn76
            case hn76 => intro w' hSw; go_simp; (try with_reducible rfl)
            (try simp only [List.getElem_toArray]); (try simp only [List.getElem_cons_succ]); (try simp only [List.getElem_cons_zero]); (try simp only [Act.put]); (try simp only [List.setIfInBounds_toArray]); (try simp only [List.set_cons_succ]); (try simp only [List.set_cons_zero])
            refine wpAnyH_take (i := 10) (v := ?vn77) rfl (by kernel_rfl) (by kernel_rfl) (by kernel_rfl) (fun _ _ _ h => h) (Or.inl ⟨by rfl, ?hn77⟩) hS ?rn77
            case hn77 => intro w' hSw; go_simp; (try with_reducible rfl)
            (try simp only [List.getElem_toArray]); (try simp only [List.getElem_cons_succ]); (try simp only [List.getElem_cons_zero]); (try simp only [Act.put]); (try simp only [List.setIfInBounds_toArray]); (try simp only [List.set_cons_succ]); (try simp only [List.set_cons_zero])
            refine wpAnyH_take (i := 11) (v := ?vn78) rfl (by kernel_rfl) (by kernel_rfl) (by kernel_rfl) (fun _ _ _ h => h) (Or.inl ⟨by rfl, ?hn78⟩) hS ?rn78
            case hn78 => intro w' hSw; go_simp; (try with_reducible rfl)
            (try simp only [List.getElem_toArray]); (try simp only [List.getElem_cons_succ]); (try simp only [List.getElem_cons_zero]); (try simp only [Act.put]); (try simp only [List.setIfInBounds_toArray]); (try simp only [List.set_cons_succ]); (try simp only [List.set_cons_zero])
            refine wpAnyH_take (i := 12) (v := ?vn79) rfl (by kernel_rfl) (by kernel_rfl) (by kernel_rfl) (fun _ _ _ h => h) (Or.inl ⟨by rfl, ?hn79⟩) hS ?rn79
            case hn79 => intro w' hSw; go_simp; (try with_reducible rfl)
            (try simp only [List.getElem_toArray]); (try simp only [List.getElem_cons_succ]); (try simp only [List.getElem_cons_zero]); (try simp only [Act.put]); (try simp only [List.setIfInBounds_toArray]); (try simp only [List.set_cons_succ]); (try simp only [List.set_cons_zero])
            refine wpAnyH_take (i := 13) (v := ?vn80) rfl (by kernel_rfl) (by kernel_rfl) (by kernel_rfl) (fun _ _ _ h => h) (Or.inl ⟨by rfl, ?hn80⟩) hS ?rn80
            case hn80 => intro w' hSw; go_simp; (try with_reducible rfl)
            (try simp only [List.getElem_toArray]); (try simp only [List.getElem_cons_succ]); (try simp only [List.getElem_cons_zero]); (try simp only [Act.put]); (try simp only [List.setIfInBounds_toArray]); (try simp only [List.set_cons_succ]); (try simp only [List.set_cons_zero])
            refine wpAnyH_ready (rs := [14]) (by kernel_rfl) (by simp) ?_
            refine AllReadyH.cons (o := _) rfl (fun K hK => ?_) AllReadyH.nil
            rw [if_pos (by rfl)]
            go_simp
            go_at_call 18
            clear hS
            refine (KF _ rN2).mono ?_
            rintro e w10 ⟨rfl, k10⟩
            replace XZ := XZ.keep k10
            replace XP := XP.keep k10
            replace XT := XT.keep k10
            replace XX := XX.keep k10
            replace XC := XC.keep k10
            replace XN2 := XN2.keep k10
            replace rX := rX.below k10
            replace rN2 := rN2.below k10
            replace B := B.trans (k10.mono B.size)
            clear k10
            have hS : (∀ o, w10.cell? ⟨b6, o, none⟩ = (#[.slice p xs.length c] : Array Value)[o]?) ∧ (∀ o, w10.cell? ⟨b7, o, none⟩ = (#[.int .i64 ch.xWho, .int .i64 ch.xAt, .int .i64 ch.xBy, .bool ch.xCry] : Array Value)[o]?) ∧ (∀ o, w10.cell? ⟨b8, o, none⟩ = (#[.int .i64 0, .int .i64 0, .slice p0 xs.length c0, .slice p1 4 c1, .int .i64 0, .slice p2 4 c2, .int .i64 ch.xWho, .int .i64 ch.xAt, .int .i64 ch.xBy, .bool ch.xCry, .bool false, .int .i64 0, .int .i64 0, .int .i64 0, .int .i64 0, .int .i64 0, .int .i64 0, .int .i64 0] : Array Value)[o]?) := ⟨XX.at.1, XC.at.1, XN2.at.1⟩
            refine hK.out _ _ hS (fun hS => ?_)
            clear hK K
            (try simp only [List.getElem_toArray]); (try simp only [List.getElem_cons_succ]); (try simp only [List.getElem_cons_zero]); (try simp only [Act.put]); (try simp only [List.setIfInBounds_toArray]); (try simp only [List.set_cons_succ]); (try simp only [List.set_cons_zero])
            refine wpAnyH_take (i := 15) (v := ?vn81) rfl (by kernel_rfl) (by kernel_rfl) (by kernel_rfl) (fun _ _ _ h => h) (Or.inl ⟨by rfl, ?hn81⟩) hS ?rn81
            case hn81 => intro w' hSw; go_simp; (try with_reducible rfl)
            (try simp only [List.getElem_toArray]); (try simp only [List.getElem_cons_succ]); (try simp only [List.getElem_cons_zero]); (try simp only [Act.put]); (try simp only [List.setIfInBounds_toArray]); (try simp only [List.set_cons_succ]); (try simp only [List.set_cons_zero])
            refine wpAnyH_take (i := 16) (v := ?vn82) rfl (by kernel_rfl) (by kernel_rfl) (by kernel_rfl) (fun _ _ _ h => h) (Or.inl ⟨by rfl, ?hn82⟩) hS ?rn82
            case hn82 => intro w' hSw; go_simp; (try with_reducible rfl)
            (try simp only [List.getElem_toArray]); (try simp only [List.getElem_cons_succ]); (try simp only [List.getElem_cons_zero]); (try simp only [Act.put]); (try simp only [List.setIfInBounds_toArray]); (try simp only [List.set_cons_succ]); (try simp only [List.set_cons_zero])
            refine wpAnyH_take (i := 17) (v := ?vn83) rfl (by kernel_rfl) (by kernel_rfl) (by kernel_rfl) (fun _ _ _ h => h) (Or.inl ⟨by rfl, ?hn83⟩) hS ?rn83
            case hn83 => intro w' hSw; go_simp; (try with_reducible rfl)
            (try simp only [List.getElem_toArray]); (try simp only [List.getElem_cons_succ]); (try simp only [List.getElem_cons_zero]); (try simp only [Act.put]); (try simp only [List.setIfInBounds_toArray]); (try simp only [List.set_cons_succ]); (try simp only [List.set_cons_zero])
            refine wpAnyH_take (i := 18) (v := ?vn84) rfl (by kernel_rfl) (by kernel_rfl) (by kernel_rfl) (fun _ _ _ h => h) (Or.inl ⟨by rfl, ?hn84⟩) hS ?rn84
            case hn84 => intro w' hSw; go_simp; (try with_reducible rfl)
            (try simp only [List.getElem_toArray]); (try simp only [List.getElem_cons_succ]); (try simp only [List.getElem_cons_zero]); (try simp only [Act.put]); (try simp only [List.setIfInBounds_toArray]); (try simp only [List.set_cons_succ]); (try simp only [List.set_cons_zero])
            refine wpAnyH_take (i := 19) (v := ?vn85) rfl (by kernel_rfl) (by kernel_rfl) (by kernel_rfl) (fun _ _ _ h => h) (Or.inl ⟨by rfl, ?hn85⟩) hS ?rn85
            case hn85 => intro w' hSw; go_simp; (try with_reducible rfl)
            (try simp only [List.getElem_toArray]); (try simp only [List.getElem_cons_succ]); (try simp only [List.getElem_cons_zero]); (try simp only [Act.put]); (try simp only [List.setIfInBounds_toArray]); (try simp only [List.set_cons_succ]); (try simp only [List.set_cons_zero])
            refine wpAnyH_take (i := 20) (v := ?vn86) rfl (by kernel_rfl) (by kernel_rfl) (by kernel_rfl) (fun _ _ _ h => h) (Or.inl ⟨by rfl, ?hn86⟩) hS ?rn86
            case hn86 => intro w' hSw; go_simp; (try with_reducible rfl)
            (try simp only [List.getElem_toArray]); (try simp only [List.getElem_cons_succ]); (try simp only [List.getElem_cons_zero]); (try simp only [Act.put]); (try simp only [List.setIfInBounds_toArray]); (try simp only [List.set_cons_succ]); (try simp only [List.set_cons_zero])
            refine wpAnyH_take (i := 21) (v := ?vn87) rfl (by kernel_rfl) (by kernel_rfl) (by kernel_rfl) (fun _ _ _ h => h) (Or.inl ⟨by rfl, ?hn87⟩) hS ?rn87
            case hn87 => intro w' hSw; go_simp; (try with_reducible rfl)
            (try simp only [List.getElem_toArray]); (try simp only [List.getElem_cons_succ]); (try simp only [List.getElem_cons_zero]); (try simp only [Act.put]); (try simp only [List.setIfInBounds_toArray]); (try simp only [List.set_cons_succ]); (try simp only [List.set_cons_zero])
            refine wpAnyH_take (i := 22) (v := ?vn88) rfl (by kernel_rfl) (by kernel_rfl) (by kernel_rfl) (fun _ _ _ h => h) (Or.inl ⟨by rfl, ?hn88⟩) hS ?rn88
            case hn88 => intro w' hSw; go_simp; (try with_reducible rfl)
            (try simp only [List.getElem_toArray]); (try simp only [List.getElem_cons_succ]); (try simp only [List.getElem_cons_zero]); (try simp only [Act.put]); (try simp only [List.setIfInBounds_toArray]); (try simp only [List.set_cons_succ]); (try simp only [List.set_cons_zero])
            refine wpAnyH_take (i := 23) (v := ?vn89) rfl (by kernel_rfl) (by kernel_rfl) (by kernel_rfl) (fun _ _ _ h => h) (Or.inl ⟨by rfl, ?hn89⟩) hS ?rn89
            case hn89 => intro w' hSw; go_simp; (try with_reducible rfl)
            (try simp only [List.getElem_toArray]); (try simp only [List.getElem_cons_succ]); (try simp only [List.getElem_cons_zero]); (try simp only [Act.put]); (try simp only [List.setIfInBounds_toArray]); (try simp only [List.set_cons_succ]); (try simp only [List.set_cons_zero])
            refine wpAnyH_take (i := 24) (v := ?vn90) rfl (by kernel_rfl) (by kernel_rfl) (by kernel_rfl) (fun _ _ _ h => h) (Or.inl ⟨by rfl, ?hn90⟩) hS ?rn90
            case hn90 => intro w' hSw; go_simp; (try with_reducible rfl)
            (try simp only [List.getElem_toArray]); (try simp only [List.getElem_cons_succ]); (try simp only [List.getElem_cons_zero]); (try simp only [Act.put]); (try simp only [List.setIfInBounds_toArray]); (try simp only [List.set_cons_succ]); (try simp only [List.set_cons_zero])
            refine wpAnyH_take (i := 25) (v := ?vn91) rfl (by kernel_rfl) (by kernel_rfl) (by kernel_rfl) (fun _ _ _ h => h) (Or.inl ⟨by rfl, ?hn91⟩) hS ?rn91
            case hn91 => intro w' hSw; go_simp; (try with_reducible rfl)
            (try simp only [List.getElem_toArray]); (try simp only [List.getElem_cons_succ]); (try simp only [List.getElem_cons_zero]); (try simp only [Act.put]); (try simp only [List.setIfInBounds_toArray]); (try simp only [List.set_cons_succ]); (try simp only [List.set_cons_zero])
            refine wpAnyH_take (i := 26) (v := ?vn92) rfl (by kernel_rfl) (by kernel_rfl) (by kernel_rfl) (fun _ _ _ h => h) (Or.inl ⟨by rfl, ?hn92⟩) hS ?rn92
            case hn92 => intro w' hSw; go_simp; (try with_reducible rfl)
            (try simp only [List.getElem_toArray]); (try simp only [List.getElem_cons_succ]); (try simp only [List.getElem_cons_zero]); (try simp only [Act.put]); (try simp only [List.setIfInBounds_toArray]); (try simp only [List.set_cons_succ]); (try simp only [List.set_cons_zero])
            refine wpAnyH_take (i := 27) (v := ?vn93) rfl (by kernel_rfl) (by kernel_rfl) (by kernel_rfl) (fun _ _ _ h => h) (Or.inl ⟨by rfl, ?hn93⟩) hS ?rn93
            case hn93 => intro w' hSw; go_simp; (try with_reducible rfl)
            (try simp only [List.getElem_toArray]); (try simp only [List.getElem_cons_succ]); (try simp only [List.getElem_cons_zero]); (try simp only [Act.put]); (try simp only [List.setIfInBounds_toArray]); (try simp only [List.set_cons_succ]); (try simp only [List.set_cons_zero])
            refine wpAnyH_take (i := 28) (v := ?vn94) rfl (by kernel_rfl) (by kernel_rfl) (by kernel_rfl) (fun _ _ _ h => h) (Or.inl ⟨by rfl, ?hn94⟩) hS ?rn94
            case hn94 => intro w' hSw; go_simp; (try with_reducible rfl)
            (try simp only [List.getElem_toArray]); (try simp only [List.getElem_cons_succ]); (try simp only [List.getElem_cons_zero]); (try simp only [Act.put]); (try simp only [List.setIfInBounds_toArray]); (try simp only [List.set_cons_succ]); (try simp only [List.set_cons_zero])
            refine wpAnyH_take (i := 29) (v := ?vn95) rfl (by kernel_rfl) (by kernel_rfl) (by kernel_rfl) (fun _ _ _ h => h) (Or.inl ⟨by rfl, ?hn95⟩) hS ?rn95
            case hn95 => intro w' hSw; go_simp; (try with_reducible rfl)
            (try simp only [List.getElem_toArray]); (try simp only [List.getElem_cons_succ]); (try simp only [List.getElem_cons_zero]); (try simp only [Act.put]); (try simp only [List.setIfInBounds_toArray]); (try simp only [List.set_cons_succ]); (try simp only [List.set_cons_zero])
            refine wpAnyH_take (i := 30) (v := ?vn96) rfl (by kernel_rfl) (by kernel_rfl) (by kernel_rfl) (fun _ _ _ h => h) (Or.inl ⟨by rfl, ?hn96⟩) hS ?rn96
            case hn96 => intro w' hSw; go_simp; (try with_reducible rfl)
            (try simp only [List.getElem_toArray]); (try simp only [List.getElem_cons_succ]); (try simp only [List.getElem_cons_zero]); (try simp only [Act.put]); (try simp only [List.setIfInBounds_toArray]); (try simp only [List.set_cons_succ]); (try simp only [List.set_cons_zero])
            refine wpAnyH_take (i := 31) (v := ?vn97) rfl (by kernel_rfl) (by kernel_rfl) (by kernel_rfl) (fun _ _ _ h => h) (Or.inl ⟨by rfl, ?hn97⟩) hS ?rn97
            case hn97 => intro w' hSw; go_simp; (try with_reducible rfl)
            (try simp only [List.getElem_toArray]); (try simp only [List.getElem_cons_succ]); (try simp only [List.getElem_cons_zero]); (try simp only [Act.put]); (try simp only [List.setIfInBounds_toArray]); (try simp only [List.set_cons_succ]); (try simp only [List.set_cons_zero])
            refine wpAnyH_take (i := 32) (v := ?vn98) rfl (by kernel_rfl) (by kernel_rfl) (by kernel_rfl) (fun _ _ _ h => h) (Or.inl ⟨by rfl, ?hn98⟩) hS ?rn98
            case hn98 => intro w' hSw; go_simp; (try with_reducible rfl)
            (try simp only [List.getElem_toArray]); (try simp only [List.getElem_cons_succ]); (try simp only [List.getElem_cons_zero]); (try simp only [Act.put]); (try simp only [List.setIfInBounds_toArray]); (try simp only [List.set_cons_succ]); (try simp only [List.set_cons_zero])
            refine wpAnyH_take (i := 33) (v := ?vn99) rfl (by kernel_rfl) (by kernel_rfl) (by kernel_rfl) (fun _ _ _ h => h) (Or.inl ⟨by rfl, ?hn99⟩) hS ?rn99
            case hn99 => intro w' hSw; go_simp; (try with_reducible rfl)
            (try simp only [List.getElem_toArray]); (try simp only [List.getElem_cons_succ]); (try simp only [List.getElem_cons_zero]); (try simp only [Act.put]); (try simp only [List.setIfInBounds_toArray]); (try simp only [List.set_cons_succ]); (try simp only [List.set_cons_zero])
            refine wpAnyH_take (i := 34) (v := ?vn100) rfl (by kernel_rfl) (by kernel_rfl) (by kernel_rfl) (fun _ _ _ h => h) (Or.inl ⟨by rfl, ?hn100⟩) hS ?rn100
            case hn100 => intro w' hSw; go_simp; (try with_reducible rfl)
            (try simp only [List.getElem_toArray]); (try simp only [List.getElem_cons_succ]); (try simp only [List.getElem_cons_zero]); (try simp only [Act.put]); (try simp only [List.setIfInBounds_toArray]); (try simp only [List.set_cons_succ]); (try simp only [List.set_cons_zero])
            refine wpAnyH_take (i := 35) (v := ?vn101) rfl (by kernel_rfl) (by kernel_rfl) (by kernel_rfl) (fun _ _ _ h => h) (Or.inl ⟨by rfl, ?hn101⟩) hS ?rn101
            case hn101 => intro w' hSw; go_simp; (try with_reducible rfl)
            (try simp only [List.getElem_toArray]); (try simp only [List.getElem_cons_succ]); (try simp only [List.getElem_cons_zero]); (try simp only [Act.put]); (try simp only [List.setIfInBounds_toArray]); (try simp only [List.set_cons_succ]); (try simp only [List.set_cons_zero])
            refine wpAnyH_take (i := 36) (v := ?vn102) rfl (by kernel_rfl) (by kernel_rfl) (by kernel_rfl) (fun _ _ _ h => h) (Or.inl ⟨by rfl, ?hn102⟩) hS ?rn102
            case hn102 => intro w' hSw; go_simp; (try with_reducible rfl)
            (try simp only [List.getElem_toArray]); (try simp only [List.getElem_cons_succ]); (try simp only [List.getElem_cons_zero]); (try simp only [Act.put]); (try simp only [List.setIfInBounds_toArray]); (try simp only [List.set_cons_succ]); (try simp only [List.set_cons_zero])
            refine wpAnyH_take (i := 37) (v := ?vn103) rfl (by kernel_rfl) (by kernel_rfl) (by kernel_rfl) (fun _ _ _ h => h) (Or.inl ⟨by rfl, ?hn103⟩) hS ?rn103
            case hn103 => intro w' hSw; go_simp; (try with_reducible rfl)
            (try simp only [List.getElem_toArray]); (try simp only [List.getElem_cons_succ]); (try simp only [List.getElem_cons_zero]); (try simp only [Act.put]); (try simp only [List.setIfInBounds_toArray]); (try simp only [List.set_cons_succ]); (try simp only [List.set_cons_zero])
            refine wpAnyH_take (i := 38) (v := ?vn104) rfl (by kernel_rfl) (by kernel_rfl) (by kernel_rfl) (fun _ _ _ h => h) (Or.inl ⟨by rfl, ?hn104⟩) hS ?rn104
            case hn104 => intro w' hSw; go_simp; (try with_reducible rfl)
            (try simp only [List.getElem_toArray]); (try simp only [List.getElem_cons_succ]); (try simp only [List.getElem_cons_zero]); (try simp only [Act.put]); (try simp only [List.setIfInBounds_toArray]); (try simp only [List.set_cons_succ]); (try simp only [List.set_cons_zero])
            refine wpAnyH_take (i := 40) (v := ?vn105) rfl (by kernel_rfl) (by kernel_rfl) (by kernel_rfl) (fun _ _ _ h => h) (Or.inl ⟨by rfl, ?hn105⟩) hS ?rn105
            case hn105 => intro w' hSw; go_simp; (try with_reducible rfl)
            (try simp only [List.getElem_toArray]); (try simp only [List.getElem_cons_succ]); (try simp only [List.getElem_cons_zero]); (try simp only [Act.put]); (try simp only [List.setIfInBounds_toArray]); (try simp only [List.set_cons_succ]); (try simp only [List.set_cons_zero])
            refine wpAnyH_ready (rs := [39]) (by kernel_rfl) (by simp) ?_
            refine AllReadyH.cons (o := _) rfl (fun K hK => ?_) AllReadyH.nil
            rw [if_pos (by rfl)]
            go_simp
            go_at_call 26
            clear hS
            refine (KCI _).mono ?_
            rintro e w11 ⟨rfl, k11⟩
            replace XZ := XZ.keep k11
            replace XP := XP.keep k11
            replace XT := XT.keep k11
            replace XX := XX.keep k11
            replace XC := XC.keep k11
            replace XN2 := XN2.keep k11
            replace rX := rX.below k11
            replace rN2 := rN2.below k11
            replace B := B.trans (k11.mono B.size)
            clear k11
            have hS : (∀ o, w11.cell? ⟨b6, o, none⟩ = (#[.slice p xs.length c] : Array Value)[o]?) ∧ (∀ o, w11.cell? ⟨b7, o, none⟩ = (#[.int .i64 ch.xWho, .int .i64 ch.xAt, .int .i64 ch.xBy, .bool ch.xCry] : Array Value)[o]?) ∧ (∀ o, w11.cell? ⟨b8, o, none⟩ = (#[.int .i64 0, .int .i64 0, .slice p0 xs.length c0, .slice p1 4 c1, .int .i64 0, .slice p2 4 c2, .int .i64 ch.xWho, .int .i64 ch.xAt, .int .i64 ch.xBy, .bool ch.xCry, .bool false, .int .i64 0, .int .i64 0, .int .i64 0, .int .i64 0, .int .i64 0, .int .i64 0, .int .i64 0] : Array Value)[o]?) := ⟨XX.at.1, XC.at.1, XN2.at.1⟩
            refine hK.out _ _ hS (fun hS => ?_)
            clear hK K
            (try simp only [List.getElem_toArray]); (try simp only [List.getElem_cons_succ]); (try simp only [List.getElem_cons_zero]); (try simp only [Act.put]); (try simp only [List.setIfInBounds_toArray]); (try simp only [List.set_cons_succ]); (try simp only [List.set_cons_zero])
            refine wpAnyH_ready (rs := [41]) (by kernel_rfl) (by simp) ?_
            refine AllReadyH.cons (o := _) rfl (fun K hK => ?_) AllReadyH.nil
            rw [if_pos (by rfl)]
            go_simp
            go_at_call 27
            clear hS
            refine (KCS _).mono ?_
            rintro e w12 ⟨rfl, k12⟩
            replace XZ := XZ.keep k12
            replace XP := XP.keep k12
            replace XT := XT.keep k12
            replace XX := XX.keep k12
            replace XC := XC.keep k12
            replace XN2 := XN2.keep k12
            replace rX := rX.below k12
            replace rN2 := rN2.below k12
            replace B := B.trans (k12.mono B.size)
            clear k12
            have hS : (∀ o, w12.cell? ⟨b6, o, none⟩ = (#[.slice p xs.length c] : Array Value)[o]?) ∧ (∀ o, w12.cell? ⟨b7, o, none⟩ = (#[.int .i64 ch.xWho, .int .i64 ch.xAt, .int .i64 ch.xBy, .bool ch.xCry] : Array Value)[o]?) ∧ (∀ o, w12.cell? ⟨b8, o, none⟩ = (#[.int .i64 0, .int .i64 0, .slice p0 xs.length c0, .slice p1 4 c1, .int .i64 0, .slice p2 4 c2, .int .i64 ch.xWho, .int .i64 ch.xAt, .int .i64 ch.xBy, .bool ch.xCry, .bool false, .int .i64 0, .int .i64 0, .int .i64 0, .int .i64 0, .int .i64 0, .int .i64 0, .int .i64 0] : Array Value)[o]?) := ⟨XX.at.1, XC.at.1, XN2.at.1⟩
            refine hK.out _ _ hS (fun hS => ?_)
            clear hK K
            (try simp only [List.getElem_toArray]); (try simp only [List.getElem_cons_succ]); (try simp only [List.getElem_cons_zero]); (try simp only [Act.put]); (try simp only [List.setIfInBounds_toArray]); (try simp only [List.set_cons_succ]); (try simp only [List.set_cons_zero])
            refine wpAnyH_take (i := 42) (v := ?vn106) rfl (by kernel_rfl) (by kernel_rfl) (by kernel_rfl) (fun _ _ _ h => h) (Or.inl ⟨by rfl, ?hn106⟩) hS ?rn106
            case hn106 => intro w' hSw; go_simp; (try with_reducible rfl)
            (try simp only [List.getElem_toArray]); (try simp only [List.getElem_cons_succ]); (try simp only [List.getElem_cons_zero]); (try simp only [Act.put]); (try simp only [List.setIfInBounds_toArray]); (try simp only [List.set_cons_succ]); (try simp only [List.set_cons_zero])
            refine wpAnyH_take (i := 43) (v := ?vn107) rfl (by kernel_rfl) (by kernel_rfl) (by kernel_rfl) (fun _ _ _ h => h) (Or.inl ⟨by rfl, ?hn107⟩) hS ?rn107
            case hn107 => intro w' hSw; go_simp; (try with_reducible rfl)
            (try simp only [List.getElem_toArray]); (try simp only [List.getElem_cons_succ]); (try simp only [List.getElem_cons_zero]); (try simp only [Act.put]); (try simp only [List.setIfInBounds_toArray]); (try simp only [List.set_cons_succ]); (try simp only [List.set_cons_zero])
            refine wpAnyH_done (by kernel_rfl) ?_ _
            clear hS
            go_wp2
            go_meet
            case rel => exact ⟨rfl, XZ, XP, XT, B⟩
        · as_aux_lemma =>
            have e8 : (N.xCode == 0) = false := by simpa using hj
            have es : (N.xCode != N.xCode) = false := by simp
            clear hj
            refine wp_region_held (S := fun V => (∀ o, V.cell? ⟨b6, o, none⟩ = (#[.slice p xs.length c] : Array Value)[o]?) ∧ (∀ o, V.cell? ⟨b7, o, none⟩ = (#[.int .i64 ch.xWho, .int .i64 ch.xAt, .int .i64 ch.xBy, .bool ch.xCry] : Array Value)[o]?) ∧ (∀ o, V.cell? ⟨b8, o, none⟩ = (#[.int .i64 N.xCode, .int .i64 N.xValue, .slice p0 N.xNet.xTape.length c0, .slice p1 N.xNet.xUsed.length c1, .int .i64 N.xNet.xSent, .slice p2 N.xNet.xHeard.length c2, .int .i64 N.xNet.xCheat.xWho, .int .i64 N.xNet.xCheat.xAt, .int .i64 N.xNet.xCheat.xBy, .bool N.xNet.xCheat.xCry, .bool N.xNet.xQuarrel.xSome, .int .i64 N.xNet.xQuarrel.xFrom, .int .i64 N.xNet.xQuarrel.xCheck, .int .i64 N.xNet.xQuarrel.xTo, .int .i64 N.xNet.xQuarrel.xTold, .int .i64 N.xNet.xQuarrel.xHeard, .int .i64 N.xNet.xQuarrel.xOther, .int .i64 N.xNet.xQuarrel.xVowed] : Array Value)[o]?)) (by kernel_rfl) ?_
            try (change wpAnyH _ _ _ _ _ _ _ _ (World.drew _))
            replace XZ := XZ.drew
            replace XP := XP.drew
            replace XT := XT.drew
            replace XX := XX.drew
            replace XC := XC.drew
            replace XN := XN.drew
            replace rX := rX.below (Below.refl _ _).drew
            replace rN := rN.below (Below.refl _ _).drew
            replace B := B.drew
            have hS : (∀ o, V8.drew.cell? ⟨b6, o, none⟩ = (#[.slice p xs.length c] : Array Value)[o]?) ∧ (∀ o, V8.drew.cell? ⟨b7, o, none⟩ = (#[.int .i64 ch.xWho, .int .i64 ch.xAt, .int .i64 ch.xBy, .bool ch.xCry] : Array Value)[o]?) ∧ (∀ o, V8.drew.cell? ⟨b8, o, none⟩ = (#[.int .i64 N.xCode, .int .i64 N.xValue, .slice p0 N.xNet.xTape.length c0, .slice p1 N.xNet.xUsed.length c1, .int .i64 N.xNet.xSent, .slice p2 N.xNet.xHeard.length c2, .int .i64 N.xNet.xCheat.xWho, .int .i64 N.xNet.xCheat.xAt, .int .i64 N.xNet.xCheat.xBy, .bool N.xNet.xCheat.xCry, .bool N.xNet.xQuarrel.xSome, .int .i64 N.xNet.xQuarrel.xFrom, .int .i64 N.xNet.xQuarrel.xCheck, .int .i64 N.xNet.xQuarrel.xTo, .int .i64 N.xNet.xQuarrel.xTold, .int .i64 N.xNet.xQuarrel.xHeard, .int .i64 N.xNet.xQuarrel.xOther, .int .i64 N.xNet.xQuarrel.xVowed] : Array Value)[o]?) := ⟨XX.at.1, XC.at.1, XN.at.1⟩
            refine wpAnyH_take (i := 0) (v := ?vn108) rfl (by kernel_rfl) (by kernel_rfl) (by kernel_rfl) (fun _ _ _ h => h) (Or.inl ⟨by rfl, ?hn108⟩) hS ?rn108
            case hn108 => intro w' hSw; go_simp; (try with_reducible rfl)
            (try simp only [List.getElem_toArray]); (try simp only [List.getElem_cons_succ]); (try simp only [List.getElem_cons_zero]); (try simp only [Act.put]); (try simp only [List.setIfInBounds_toArray]); (try simp only [List.set_cons_succ]); (try simp only [List.set_cons_zero])
            refine wpAnyH_take (i := 1) (v := ?vn109) rfl (by kernel_rfl) (by kernel_rfl) (by kernel_rfl) (fun _ _ _ h => h) (Or.inl ⟨by rfl, ?hn109⟩) hS ?rn109
            case hn109 => intro w' hSw; go_simp; (try with_reducible rfl)
            (try simp only [List.getElem_toArray]); (try simp only [List.getElem_cons_succ]); (try simp only [List.getElem_cons_zero]); (try simp only [Act.put]); (try simp only [List.setIfInBounds_toArray]); (try simp only [List.set_cons_succ]); (try simp only [List.set_cons_zero])
            refine wpAnyH_take (i := 2) (v := ?vn110) rfl (by kernel_rfl) (by kernel_rfl) (by kernel_rfl) (fun _ _ _ h => h) (Or.inl ⟨by rfl, ?hn110⟩) hS ?rn110
            case hn110 => intro w' hSw; go_simp; (try with_reducible rfl)
            (try simp only [List.getElem_toArray]); (try simp only [List.getElem_cons_succ]); (try simp only [List.getElem_cons_zero]); (try simp only [Act.put]); (try simp only [List.setIfInBounds_toArray]); (try simp only [List.set_cons_succ]); (try simp only [List.set_cons_zero])
            refine wpAnyH_take (i := 3) (v := ?vn111) rfl (by kernel_rfl) (by kernel_rfl) (by kernel_rfl) (fun _ _ _ h => h) (Or.inl ⟨by rfl, ?hn111⟩) hS ?rn111
            case hn111 => intro w' hSw; go_simp; (try with_reducible rfl)
            (try simp only [List.getElem_toArray]); (try simp only [List.getElem_cons_succ]); (try simp only [List.getElem_cons_zero]); (try simp only [Act.put]); (try simp only [List.setIfInBounds_toArray]); (try simp only [List.set_cons_succ]); (try simp only [List.set_cons_zero])
            refine wpAnyH_ready (rs := [4]) (by kernel_rfl) (by simp) ?_
            refine AllReadyH.cons (o := _) rfl (fun K hK => ?_) AllReadyH.nil
            rw [if_pos (by rfl)]
            go_simp
            go_at_call 25
            clear hS
            refine (KNS _ ⟨_, _, rfl, rX⟩ rfl).mono ?_
            rintro e w13 ⟨u9, bc0, bc1, bc2, rfl, ON9, -, -, -, k13⟩
            obtain ⟨s0, t0, s1, t1, s2, t2, rfl, n0, n1, n2, -⟩ := ON9
            clear n0 n1 n2
            replace XZ := XZ.keep k13
            replace XP := XP.keep k13
            replace XT := XT.keep k13
            replace XX := XX.keep k13
            replace XC := XC.keep k13
            replace XN := XN.keep k13
            replace rX := rX.below k13
            replace rN := rN.below k13
            replace B := B.trans (k13.mono B.size)
            clear k13
            have hS : (∀ o, w13.cell? ⟨b6, o, none⟩ = (#[.slice p xs.length c] : Array Value)[o]?) ∧ (∀ o, w13.cell? ⟨b7, o, none⟩ = (#[.int .i64 ch.xWho, .int .i64 ch.xAt, .int .i64 ch.xBy, .bool ch.xCry] : Array Value)[o]?) ∧ (∀ o, w13.cell? ⟨b8, o, none⟩ = (#[.int .i64 N.xCode, .int .i64 N.xValue, .slice p0 N.xNet.xTape.length c0, .slice p1 N.xNet.xUsed.length c1, .int .i64 N.xNet.xSent, .slice p2 N.xNet.xHeard.length c2, .int .i64 N.xNet.xCheat.xWho, .int .i64 N.xNet.xCheat.xAt, .int .i64 N.xNet.xCheat.xBy, .bool N.xNet.xCheat.xCry, .bool N.xNet.xQuarrel.xSome, .int .i64 N.xNet.xQuarrel.xFrom, .int .i64 N.xNet.xQuarrel.xCheck, .int .i64 N.xNet.xQuarrel.xTo, .int .i64 N.xNet.xQuarrel.xTold, .int .i64 N.xNet.xQuarrel.xHeard, .int .i64 N.xNet.xQuarrel.xOther, .int .i64 N.xNet.xQuarrel.xVowed] : Array Value)[o]?) := ⟨XX.at.1, XC.at.1, XN.at.1⟩
            refine hK.out _ _ hS (fun hS => ?_)
            clear hK K
            (try simp only [List.getElem_toArray]); (try simp only [List.getElem_cons_succ]); (try simp only [List.getElem_cons_zero]); (try simp only [Act.put]); (try simp only [List.setIfInBounds_toArray]); (try simp only [List.set_cons_succ]); (try simp only [List.set_cons_zero])
            refine wpAnyH_take (i := 5) (v := ?vn112) rfl (by kernel_rfl) (by kernel_rfl) (by kernel_rfl) (fun _ _ _ h => h) (Or.inl ⟨by rfl, ?hn112⟩) hS ?rn112
            case hn112 => intro w' hSw; go_simp; (try with_reducible rfl)
            (try simp only [List.getElem_toArray]); (try simp only [List.getElem_cons_succ]); (try simp only [List.getElem_cons_zero]); (try simp only [Act.put]); (try simp only [List.setIfInBounds_toArray]); (try simp only [List.set_cons_succ]); (try simp only [List.set_cons_zero])
            refine wpAnyH_take (i := 6) (v := ?vn113) rfl (by kernel_rfl) (by kernel_rfl) (by kernel_rfl) (fun _ _ _ h => h) (Or.inl ⟨by rfl, ?hn113⟩) hS ?rn113
            case hn113 => intro w' hSw; go_simp; (try with_reducible rfl)
            (try simp only [List.getElem_toArray]); (try simp only [List.getElem_cons_succ]); (try simp only [List.getElem_cons_zero]); (try simp only [Act.put]); (try simp only [List.setIfInBounds_toArray]); (try simp only [List.set_cons_succ]); (try simp only [List.set_cons_zero])
            refine wpAnyH_take (i := 7) (v := ?vn114) rfl (by kernel_rfl) (by kernel_rfl) (by kernel_rfl) (fun _ _ _ h => h) (Or.inl ⟨by rfl, ?hn114⟩) hS ?rn114
            case hn114 => intro w' hSw; go_simp; (try with_reducible rfl)
            (try simp only [List.getElem_toArray]); (try simp only [List.getElem_cons_succ]); (try simp only [List.getElem_cons_zero]); (try simp only [Act.put]); (try simp only [List.setIfInBounds_toArray]); (try simp only [List.set_cons_succ]); (try simp only [List.set_cons_zero])
            refine wpAnyH_take (i := 8) (v := ?vn115) rfl (by kernel_rfl) (by kernel_rfl) (by kernel_rfl) (fun _ _ _ h => h) (Or.inl ⟨by rfl, ?hn115⟩) hS ?rn115
            case hn115 => intro w' hSw; go_simp; (try with_reducible rfl)
            (try simp only [List.getElem_toArray]); (try simp only [List.getElem_cons_succ]); (try simp only [List.getElem_cons_zero]); (try simp only [Act.put]); (try simp only [List.setIfInBounds_toArray]); (try simp only [List.set_cons_succ]); (try simp only [List.set_cons_zero])
            refine wpAnyH_take (i := 9) (v := ?vn116) rfl (by kernel_rfl) (by kernel_rfl) (by kernel_rfl) (fun _ _ _ h => h) (Or.inl ⟨by rfl, ?hn116⟩) hS ?rn116
            case hn116 => intro w' hSw; go_simp; (try with_reducible rfl)
            (try simp only [List.getElem_toArray]); (try simp only [List.getElem_cons_succ]); (try simp only [List.getElem_cons_zero]); (try simp only [Act.put]); (try simp only [List.setIfInBounds_toArray]); (try simp only [List.set_cons_succ]); (try simp only [List.set_cons_zero])
            refine wpAnyH_take (i := 10) (v := ?vn117) rfl (by kernel_rfl) (by kernel_rfl) (by kernel_rfl) (fun _ _ _ h => h) (Or.inl ⟨by rfl, ?hn117⟩) hS ?rn117
            case hn117 => intro w' hSw; go_simp; (try with_reducible rfl)
            (try simp only [List.getElem_toArray]); (try simp only [List.getElem_cons_succ]); (try simp only [List.getElem_cons_zero]); (try simp only [Act.put]); (try simp only [List.setIfInBounds_toArray]); (try simp only [List.set_cons_succ]); (try simp only [List.set_cons_zero])
            refine wpAnyH_take (i := 11) (v := ?vn118) rfl (by kernel_rfl) (by kernel_rfl) (by kernel_rfl) (fun _ _ _ h => h) (Or.inl ⟨by rfl, ?hn118⟩) hS ?rn118
            case hn118 => intro w' hSw; go_simp; (try with_reducible rfl)
            (try simp only [List.getElem_toArray]); (try simp only [List.getElem_cons_succ]); (try simp only [List.getElem_cons_zero]); (try simp only [Act.put]); (try simp only [List.setIfInBounds_toArray]); (try simp only [List.set_cons_succ]); (try simp only [List.set_cons_zero])
            refine wpAnyH_take (i := 12) (v := undef) rfl (by kernel_rfl) (by kernel_rfl) (by kernel_rfl) (fun _ _ _ h => h) (Or.inr ⟨by rfl, rfl⟩) hS ?_
            (try simp only [List.getElem_toArray]); (try simp only [List.getElem_cons_succ]); (try simp only [List.getElem_cons_zero]); (try simp only [Act.put]); (try simp only [List.setIfInBounds_toArray]); (try simp only [List.set_cons_succ]); (try simp only [List.set_cons_zero])
            refine wpAnyH_take (i := 13) (v := undef) rfl (by kernel_rfl) (by kernel_rfl) (by kernel_rfl) (fun _ _ _ h => h) (Or.inr ⟨by rfl, rfl⟩) hS ?_
            (try simp only [List.getElem_toArray]); (try simp only [List.getElem_cons_succ]); (try simp only [List.getElem_cons_zero]); (try simp only [Act.put]); (try simp only [List.setIfInBounds_toArray]); (try simp only [List.set_cons_succ]); (try simp only [List.set_cons_zero])
            refine wpAnyH_take (i := 14) (v := undef) rfl (by kernel_rfl) (by kernel_rfl) (by kernel_rfl) (fun _ _ _ h => h) (Or.inr ⟨by rfl, rfl⟩) hS ?_
            (try simp only [List.getElem_toArray]); (try simp only [List.getElem_cons_succ]); (try simp only [List.getElem_cons_zero]); (try simp only [Act.put]); (try simp only [List.setIfInBounds_toArray]); (try simp only [List.set_cons_succ]); (try simp only [List.set_cons_zero])
            refine wpAnyH_take (i := 15) (v := undef) rfl (by kernel_rfl) (by kernel_rfl) (by kernel_rfl) (fun _ _ _ h => h) (Or.inr ⟨by rfl, rfl⟩) hS ?_
            (try simp only [List.getElem_toArray]); (try simp only [List.getElem_cons_succ]); (try simp only [List.getElem_cons_zero]); (try simp only [Act.put]); (try simp only [List.setIfInBounds_toArray]); (try simp only [List.set_cons_succ]); (try simp only [List.set_cons_zero])
            refine wpAnyH_take (i := 16) (v := undef) rfl (by kernel_rfl) (by kernel_rfl) (by kernel_rfl) (fun _ _ _ h => h) (Or.inr ⟨by rfl, rfl⟩) hS ?_
            (try simp only [List.getElem_toArray]); (try simp only [List.getElem_cons_succ]); (try simp only [List.getElem_cons_zero]); (try simp only [Act.put]); (try simp only [List.setIfInBounds_toArray]); (try simp only [List.set_cons_succ]); (try simp only [List.set_cons_zero])
            refine wpAnyH_take (i := 17) (v := undef) rfl (by kernel_rfl) (by kernel_rfl) (by kernel_rfl) (fun _ _ _ h => h) (Or.inr ⟨by rfl, rfl⟩) hS ?_
            (try simp only [List.getElem_toArray]); (try simp only [List.getElem_cons_succ]); (try simp only [List.getElem_cons_zero]); (try simp only [Act.put]); (try simp only [List.setIfInBounds_toArray]); (try simp only [List.set_cons_succ]); (try simp only [List.set_cons_zero])
            refine wpAnyH_take (i := 18) (v := undef) rfl (by kernel_rfl) (by kernel_rfl) (by kernel_rfl) (fun _ _ _ h => h) (Or.inr ⟨by rfl, rfl⟩) hS ?_
            (try simp only [List.getElem_toArray]); (try simp only [List.getElem_cons_succ]); (try simp only [List.getElem_cons_zero]); (try simp only [Act.put]); (try simp only [List.setIfInBounds_toArray]); (try simp only [List.set_cons_succ]); (try simp only [List.set_cons_zero])
            refine wpAnyH_take (i := 19) (v := undef) rfl (by kernel_rfl) (by kernel_rfl) (by kernel_rfl) (fun _ _ _ h => h) (Or.inr ⟨by rfl, rfl⟩) hS ?_
            (try simp only [List.getElem_toArray]); (try simp only [List.getElem_cons_succ]); (try simp only [List.getElem_cons_zero]); (try simp only [Act.put]); (try simp only [List.setIfInBounds_toArray]); (try simp only [List.set_cons_succ]); (try simp only [List.set_cons_zero])
            refine wpAnyH_take (i := 20) (v := undef) rfl (by kernel_rfl) (by kernel_rfl) (by kernel_rfl) (fun _ _ _ h => h) (Or.inr ⟨by rfl, rfl⟩) hS ?_
            (try simp only [List.getElem_toArray]); (try simp only [List.getElem_cons_succ]); (try simp only [List.getElem_cons_zero]); (try simp only [Act.put]); (try simp only [List.setIfInBounds_toArray]); (try simp only [List.set_cons_succ]); (try simp only [List.set_cons_zero])
            refine wpAnyH_take (i := 21) (v := undef) rfl (by kernel_rfl) (by kernel_rfl) (by kernel_rfl) (fun _ _ _ h => h) (Or.inr ⟨by rfl, rfl⟩) hS ?_
            (try simp only [List.getElem_toArray]); (try simp only [List.getElem_cons_succ]); (try simp only [List.getElem_cons_zero]); (try simp only [Act.put]); (try simp only [List.setIfInBounds_toArray]); (try simp only [List.set_cons_succ]); (try simp only [List.set_cons_zero])
            refine wpAnyH_take (i := 22) (v := undef) rfl (by kernel_rfl) (by kernel_rfl) (by kernel_rfl) (fun _ _ _ h => h) (Or.inr ⟨by rfl, rfl⟩) hS ?_
            (try simp only [List.getElem_toArray]); (try simp only [List.getElem_cons_succ]); (try simp only [List.getElem_cons_zero]); (try simp only [Act.put]); (try simp only [List.setIfInBounds_toArray]); (try simp only [List.set_cons_succ]); (try simp only [List.set_cons_zero])
            refine wpAnyH_take (i := 23) (v := undef) rfl (by kernel_rfl) (by kernel_rfl) (by kernel_rfl) (fun _ _ _ h => h) (Or.inr ⟨by rfl, rfl⟩) hS ?_
            (try simp only [List.getElem_toArray]); (try simp only [List.getElem_cons_succ]); (try simp only [List.getElem_cons_zero]); (try simp only [Act.put]); (try simp only [List.setIfInBounds_toArray]); (try simp only [List.set_cons_succ]); (try simp only [List.set_cons_zero])
            refine wpAnyH_take (i := 24) (v := undef) rfl (by kernel_rfl) (by kernel_rfl) (by kernel_rfl) (fun _ _ _ h => h) (Or.inr ⟨by rfl, rfl⟩) hS ?_
            (try simp only [List.getElem_toArray]); (try simp only [List.getElem_cons_succ]); (try simp only [List.getElem_cons_zero]); (try simp only [Act.put]); (try simp only [List.setIfInBounds_toArray]); (try simp only [List.set_cons_succ]); (try simp only [List.set_cons_zero])
            refine wpAnyH_take (i := 25) (v := undef) rfl (by kernel_rfl) (by kernel_rfl) (by kernel_rfl) (fun _ _ _ h => h) (Or.inr ⟨by rfl, rfl⟩) hS ?_
            (try simp only [List.getElem_toArray]); (try simp only [List.getElem_cons_succ]); (try simp only [List.getElem_cons_zero]); (try simp only [Act.put]); (try simp only [List.setIfInBounds_toArray]); (try simp only [List.set_cons_succ]); (try simp only [List.set_cons_zero])
            refine wpAnyH_take (i := 26) (v := undef) rfl (by kernel_rfl) (by kernel_rfl) (by kernel_rfl) (fun _ _ _ h => h) (Or.inr ⟨by rfl, rfl⟩) hS ?_
            (try simp only [List.getElem_toArray]); (try simp only [List.getElem_cons_succ]); (try simp only [List.getElem_cons_zero]); (try simp only [Act.put]); (try simp only [List.setIfInBounds_toArray]); (try simp only [List.set_cons_succ]); (try simp only [List.set_cons_zero])
            refine wpAnyH_take (i := 27) (v := undef) rfl (by kernel_rfl) (by kernel_rfl) (by kernel_rfl) (fun _ _ _ h => h) (Or.inr ⟨by rfl, rfl⟩) hS ?_
            (try simp only [List.getElem_toArray]); (try simp only [List.getElem_cons_succ]); (try simp only [List.getElem_cons_zero]); (try simp only [Act.put]); (try simp only [List.setIfInBounds_toArray]); (try simp only [List.set_cons_succ]); (try simp only [List.set_cons_zero])
            refine wpAnyH_take (i := 28) (v := undef) rfl (by kernel_rfl) (by kernel_rfl) (by kernel_rfl) (fun _ _ _ h => h) (Or.inr ⟨by rfl, rfl⟩) hS ?_
            (try simp only [List.getElem_toArray]); (try simp only [List.getElem_cons_succ]); (try simp only [List.getElem_cons_zero]); (try simp only [Act.put]); (try simp only [List.setIfInBounds_toArray]); (try simp only [List.set_cons_succ]); (try simp only [List.set_cons_zero])
            refine wpAnyH_take (i := 29) (v := undef) rfl (by kernel_rfl) (by kernel_rfl) (by kernel_rfl) (fun _ _ _ h => h) (Or.inr ⟨by rfl, rfl⟩) hS ?_
            (try simp only [List.getElem_toArray]); (try simp only [List.getElem_cons_succ]); (try simp only [List.getElem_cons_zero]); (try simp only [Act.put]); (try simp only [List.setIfInBounds_toArray]); (try simp only [List.set_cons_succ]); (try simp only [List.set_cons_zero])
            refine wpAnyH_take (i := 30) (v := undef) rfl (by kernel_rfl) (by kernel_rfl) (by kernel_rfl) (fun _ _ _ h => h) (Or.inr ⟨by rfl, rfl⟩) hS ?_
            (try simp only [List.getElem_toArray]); (try simp only [List.getElem_cons_succ]); (try simp only [List.getElem_cons_zero]); (try simp only [Act.put]); (try simp only [List.setIfInBounds_toArray]); (try simp only [List.set_cons_succ]); (try simp only [List.set_cons_zero])
            refine wpAnyH_take (i := 31) (v := undef) rfl (by kernel_rfl) (by kernel_rfl) (by kernel_rfl) (fun _ _ _ h => h) (Or.inr ⟨by rfl, rfl⟩) hS ?_
            (try simp only [List.getElem_toArray]); (try simp only [List.getElem_cons_succ]); (try simp only [List.getElem_cons_zero]); (try simp only [Act.put]); (try simp only [List.setIfInBounds_toArray]); (try simp only [List.set_cons_succ]); (try simp only [List.set_cons_zero])
            refine wpAnyH_take (i := 32) (v := undef) rfl (by kernel_rfl) (by kernel_rfl) (by kernel_rfl) (fun _ _ _ h => h) (Or.inr ⟨by rfl, rfl⟩) hS ?_
            (try simp only [List.getElem_toArray]); (try simp only [List.getElem_cons_succ]); (try simp only [List.getElem_cons_zero]); (try simp only [Act.put]); (try simp only [List.setIfInBounds_toArray]); (try simp only [List.set_cons_succ]); (try simp only [List.set_cons_zero])
            refine wpAnyH_take (i := 33) (v := undef) rfl (by kernel_rfl) (by kernel_rfl) (by kernel_rfl) (fun _ _ _ h => h) (Or.inr ⟨by rfl, rfl⟩) hS ?_
            (try simp only [List.getElem_toArray]); (try simp only [List.getElem_cons_succ]); (try simp only [List.getElem_cons_zero]); (try simp only [Act.put]); (try simp only [List.setIfInBounds_toArray]); (try simp only [List.set_cons_succ]); (try simp only [List.set_cons_zero])
            refine wpAnyH_take (i := 34) (v := undef) rfl (by kernel_rfl) (by kernel_rfl) (by kernel_rfl) (fun _ _ _ h => h) (Or.inr ⟨by rfl, rfl⟩) hS ?_
            (try simp only [List.getElem_toArray]); (try simp only [List.getElem_cons_succ]); (try simp only [List.getElem_cons_zero]); (try simp only [Act.put]); (try simp only [List.setIfInBounds_toArray]); (try simp only [List.set_cons_succ]); (try simp only [List.set_cons_zero])
            refine wpAnyH_take (i := 35) (v := ?vn119) rfl (by kernel_rfl) (by kernel_rfl) (by kernel_rfl) (fun _ _ _ h => h) (Or.inl ⟨by rfl, ?hn119⟩) hS ?rn119
            case hn119 => intro w' hSw; go_simp; (try with_reducible rfl)
            (try simp only [List.getElem_toArray]); (try simp only [List.getElem_cons_succ]); (try simp only [List.getElem_cons_zero]); (try simp only [Act.put]); (try simp only [List.setIfInBounds_toArray]); (try simp only [List.set_cons_succ]); (try simp only [List.set_cons_zero])
            refine wpAnyH_take (i := 36) (v := ?vn120) rfl (by kernel_rfl) (by kernel_rfl) (by kernel_rfl) (fun _ _ _ h => h) (Or.inl ⟨by rfl, ?hn120⟩) hS ?rn120
            case hn120 => intro w' hSw; go_simp; (try with_reducible rfl)
            (try simp only [List.getElem_toArray]); (try simp only [List.getElem_cons_succ]); (try simp only [List.getElem_cons_zero]); (try simp only [Act.put]); (try simp only [List.setIfInBounds_toArray]); (try simp only [List.set_cons_succ]); (try simp only [List.set_cons_zero])
            refine wpAnyH_take (i := 37) (v := ?vn121) rfl (by kernel_rfl) (by kernel_rfl) (by kernel_rfl) (fun _ _ _ h => h) (Or.inl ⟨by rfl, ?hn121⟩) hS ?rn121
            case hn121 => intro w' hSw; go_simp; (try with_reducible rfl)
            (try simp only [List.getElem_toArray]); (try simp only [List.getElem_cons_succ]); (try simp only [List.getElem_cons_zero]); (try simp only [Act.put]); (try simp only [List.setIfInBounds_toArray]); (try simp only [List.set_cons_succ]); (try simp only [List.set_cons_zero])
            refine wpAnyH_take (i := 38) (v := ?vn122) rfl (by kernel_rfl) (by kernel_rfl) (by kernel_rfl) (fun _ _ _ h => h) (Or.inl ⟨by rfl, ?hn122⟩) hS ?rn122
            case hn122 => intro w' hSw; go_simp; (try with_reducible rfl)
            (try simp only [List.getElem_toArray]); (try simp only [List.getElem_cons_succ]); (try simp only [List.getElem_cons_zero]); (try simp only [Act.put]); (try simp only [List.setIfInBounds_toArray]); (try simp only [List.set_cons_succ]); (try simp only [List.set_cons_zero])
            refine wpAnyH_take (i := 40) (v := ?vn123) rfl (by kernel_rfl) (by kernel_rfl) (by kernel_rfl) (fun _ _ _ h => h) (Or.inl ⟨by rfl, ?hn123⟩) hS ?rn123
            case hn123 => intro w' hSw; go_simp; (try with_reducible rfl)
            (try simp only [List.getElem_toArray]); (try simp only [List.getElem_cons_succ]); (try simp only [List.getElem_cons_zero]); (try simp only [Act.put]); (try simp only [List.setIfInBounds_toArray]); (try simp only [List.set_cons_succ]); (try simp only [List.set_cons_zero])
            refine wpAnyH_ready (rs := [39]) (by kernel_rfl) (by simp) ?_
            refine AllReadyH.cons (o := _) rfl (fun K hK => ?_) AllReadyH.nil
            rw [if_pos (by rfl)]
            go_simp
            go_at_call 26
            clear hS
            refine (KCI _).mono ?_
            rintro e w14 ⟨rfl, k14⟩
            replace XZ := XZ.keep k14
            replace XP := XP.keep k14
            replace XT := XT.keep k14
            replace XX := XX.keep k14
            replace XC := XC.keep k14
            replace XN := XN.keep k14
            replace rX := rX.below k14
            replace rN := rN.below k14
            replace B := B.trans (k14.mono B.size)
            clear k14
            have hS : (∀ o, w14.cell? ⟨b6, o, none⟩ = (#[.slice p xs.length c] : Array Value)[o]?) ∧ (∀ o, w14.cell? ⟨b7, o, none⟩ = (#[.int .i64 ch.xWho, .int .i64 ch.xAt, .int .i64 ch.xBy, .bool ch.xCry] : Array Value)[o]?) ∧ (∀ o, w14.cell? ⟨b8, o, none⟩ = (#[.int .i64 N.xCode, .int .i64 N.xValue, .slice p0 N.xNet.xTape.length c0, .slice p1 N.xNet.xUsed.length c1, .int .i64 N.xNet.xSent, .slice p2 N.xNet.xHeard.length c2, .int .i64 N.xNet.xCheat.xWho, .int .i64 N.xNet.xCheat.xAt, .int .i64 N.xNet.xCheat.xBy, .bool N.xNet.xCheat.xCry, .bool N.xNet.xQuarrel.xSome, .int .i64 N.xNet.xQuarrel.xFrom, .int .i64 N.xNet.xQuarrel.xCheck, .int .i64 N.xNet.xQuarrel.xTo, .int .i64 N.xNet.xQuarrel.xTold, .int .i64 N.xNet.xQuarrel.xHeard, .int .i64 N.xNet.xQuarrel.xOther, .int .i64 N.xNet.xQuarrel.xVowed] : Array Value)[o]?) := ⟨XX.at.1, XC.at.1, XN.at.1⟩
            refine hK.out _ _ hS (fun hS => ?_)
            clear hK K
            (try simp only [List.getElem_toArray]); (try simp only [List.getElem_cons_succ]); (try simp only [List.getElem_cons_zero]); (try simp only [Act.put]); (try simp only [List.setIfInBounds_toArray]); (try simp only [List.set_cons_succ]); (try simp only [List.set_cons_zero])
            refine wpAnyH_ready (rs := [41]) (by kernel_rfl) (by simp) ?_
            refine AllReadyH.cons (o := _) rfl (fun K hK => ?_) AllReadyH.nil
            rw [if_pos (by rfl)]
            go_simp
            go_at_call 27
            clear hS
            refine (KCS _).mono ?_
            rintro e w15 ⟨rfl, k15⟩
            replace XZ := XZ.keep k15
            replace XP := XP.keep k15
            replace XT := XT.keep k15
            replace XX := XX.keep k15
            replace XC := XC.keep k15
            replace XN := XN.keep k15
            replace rX := rX.below k15
            replace rN := rN.below k15
            replace B := B.trans (k15.mono B.size)
            clear k15
            have hS : (∀ o, w15.cell? ⟨b6, o, none⟩ = (#[.slice p xs.length c] : Array Value)[o]?) ∧ (∀ o, w15.cell? ⟨b7, o, none⟩ = (#[.int .i64 ch.xWho, .int .i64 ch.xAt, .int .i64 ch.xBy, .bool ch.xCry] : Array Value)[o]?) ∧ (∀ o, w15.cell? ⟨b8, o, none⟩ = (#[.int .i64 N.xCode, .int .i64 N.xValue, .slice p0 N.xNet.xTape.length c0, .slice p1 N.xNet.xUsed.length c1, .int .i64 N.xNet.xSent, .slice p2 N.xNet.xHeard.length c2, .int .i64 N.xNet.xCheat.xWho, .int .i64 N.xNet.xCheat.xAt, .int .i64 N.xNet.xCheat.xBy, .bool N.xNet.xCheat.xCry, .bool N.xNet.xQuarrel.xSome, .int .i64 N.xNet.xQuarrel.xFrom, .int .i64 N.xNet.xQuarrel.xCheck, .int .i64 N.xNet.xQuarrel.xTo, .int .i64 N.xNet.xQuarrel.xTold, .int .i64 N.xNet.xQuarrel.xHeard, .int .i64 N.xNet.xQuarrel.xOther, .int .i64 N.xNet.xQuarrel.xVowed] : Array Value)[o]?) := ⟨XX.at.1, XC.at.1, XN.at.1⟩
            refine hK.out _ _ hS (fun hS => ?_)
            clear hK K
            (try simp only [List.getElem_toArray]); (try simp only [List.getElem_cons_succ]); (try simp only [List.getElem_cons_zero]); (try simp only [Act.put]); (try simp only [List.setIfInBounds_toArray]); (try simp only [List.set_cons_succ]); (try simp only [List.set_cons_zero])
            refine wpAnyH_take (i := 42) (v := ?vn124) rfl (by kernel_rfl) (by kernel_rfl) (by kernel_rfl) (fun _ _ _ h => h) (Or.inl ⟨by rfl, ?hn124⟩) hS ?rn124
            case hn124 => intro w' hSw; go_simp; (try with_reducible rfl)
            (try simp only [List.getElem_toArray]); (try simp only [List.getElem_cons_succ]); (try simp only [List.getElem_cons_zero]); (try simp only [Act.put]); (try simp only [List.setIfInBounds_toArray]); (try simp only [List.set_cons_succ]); (try simp only [List.set_cons_zero])
            refine wpAnyH_take (i := 43) (v := ?vn125) rfl (by kernel_rfl) (by kernel_rfl) (by kernel_rfl) (fun _ _ _ h => h) (Or.inl ⟨by rfl, ?hn125⟩) hS ?rn125
            case hn125 => intro w' hSw; go_simp; (try with_reducible rfl)
            (try simp only [List.getElem_toArray]); (try simp only [List.getElem_cons_succ]); (try simp only [List.getElem_cons_zero]); (try simp only [Act.put]); (try simp only [List.setIfInBounds_toArray]); (try simp only [List.set_cons_succ]); (try simp only [List.set_cons_zero])
            refine wpAnyH_done (by kernel_rfl) ?_ _
            clear hS
            go_wp2
            go_meet
            case rel => exact ⟨rfl, XZ, XP, XT, B⟩
    case rest =>
      as_aux_lemma =>
        clear XZ XP XT XX XC XN rX rN B
        clear KNS HN
        obtain ⟨rfl, XZ, XP, XT, B⟩ := hcut
        obtain ⟨wz, ewz⟩ : ∃ x : World, x = wc := ⟨_, rfl⟩
        subst ewz
        have XPa := XP.at.1
        have XPl := XP.lt
        by_cases hf : P.xCode = 0
        · as_aux_lemma =>
            have ef : (P.xCode != 0) = false := by simpa using hf
            obtain ⟨f1, f2, f3, f4, f5, f6⟩ := HJ.out hf
            have HT3 : Hid (hits P z 3 = 2) := by show 0 + hit P z.xFrom + hit P z.xCheck + hit P z.xTo = 2; omega
            have el : decide (P.xFirst < P.xSecond) = true := by simpa using f1
            have eq0 : (Q.xCode == 0) = true := by simpa using f2
            have en1 : (Q.xValue != P.xFirst) = true := by simpa using f3
            have en2 : (Q.xValue != P.xSecond) = true := by simpa using f4
            have eg : decide (0 ≤ Q.xValue) = true := by simpa using f5.1
            have eh : decide (Q.xValue < 4) = true := by simpa using f5.2
            have ev : (Q.xValue == Q.xValue) = true := by simp
            clear hf HJ HK KPS f1 f2 f3 f4 f5 f6
            have XZa := XZ.at.1
            have XZl := XZ.lt
            go_wp2_with fail
            clear XZa XZl XPa XPl
            have X9 := Blk.new wz 2 #[.int .i64 z.xFrom, .int .i64 z.xCheck, .int .i64 z.xTo]
            replace XZ := XZ.alloc (.cells #[.int .i64 z.xFrom, .int .i64 z.xCheck, .int .i64 z.xTo] 2)
            replace XP := XP.alloc (.cells #[.int .i64 z.xFrom, .int .i64 z.xCheck, .int .i64 z.xTo] 2)
            replace XT := XT.alloc (.cells #[.int .i64 z.xFrom, .int .i64 z.xCheck, .int .i64 z.xTo] 2)
            replace B := B.alloc B.size (.cells #[.int .i64 z.xFrom, .int .i64 z.xCheck, .int .i64 z.xTo] 2)
            generalize hw9 : wz.heap.size = b9 at *
            clear hw9
            go_loopw [10, 11] (fun s i wr => ∃ k : Nat, k ≤ 3 ∧ i = .int .i64 k ∧ s = .int .i64 (hits P z k) ∧ Blk wr b3 44 #[.bool z.xSome, .int .i64 z.xFrom, .int .i64 z.xCheck, .int .i64 z.xTo, .int .i64 z.xTold, .int .i64 z.xHeard, .int .i64 z.xOther, .int .i64 z.xVowed] ∧ Blk wr b4 54 #[.int .i64 P.xCode, .int .i64 P.xFirst, .int .i64 P.xSecond] ∧ Blk wr b5 35 #[.int .i64 Q.xCode, .int .i64 Q.xValue] ∧ Blk wr b9 2 #[.int .i64 z.xFrom, .int .i64 z.xCheck, .int .i64 z.xTo] ∧ Below w.heap.size w wr) (fun _ i _ => 3 - (intOf i).toNat)
            case atStart => exact ⟨0, Nat.zero_le _, rfl, rfl, XZ, XP, XT, X9, B⟩
            case round =>
              clear XZ XP XT X9 B
              obtain ⟨k, hk, rfl, rfl, XZ, XP, XT, X9, B⟩ := hrel
              by_cases hlt : k < 3
              · have hi : (k : Int) < 3 := by omega
                have c9 : wr.cell? ⟨b9, k, none⟩ = some (.int .i64 (at3 z k)) := by
                  rw [X9.at.1]
                  obtain rfl | rfl | rfl : k = 0 ∨ k = 1 ∨ k = 2 := by omega
                  · rfl
                  · rfl
                  · rfl
                have HH : Hid (hits P z (k + 1) = hits P z k + hit P (at3 z k)) := rfl
                have hle := hits_le P z k
                have hk3 : (k : Int) ≤ 3 := by omega
                have FF : Hid (∀ n, Blk (wr.drewN n) b3 44 #[.bool z.xSome, .int .i64 z.xFrom, .int .i64 z.xCheck, .int .i64 z.xTo, .int .i64 z.xTold, .int .i64 z.xHeard, .int .i64 z.xOther, .int .i64 z.xVowed] ∧ Blk (wr.drewN n) b4 54 #[.int .i64 P.xCode, .int .i64 P.xFirst, .int .i64 P.xSecond] ∧ Blk (wr.drewN n) b5 35 #[.int .i64 Q.xCode, .int .i64 Q.xValue] ∧ Blk (wr.drewN n) b9 2 #[.int .i64 z.xFrom, .int .i64 z.xCheck, .int .i64 z.xTo] ∧ Below w.heap.size w (wr.drewN n)) := fun n => ⟨XZ.keep (below_drewN (Below.refl _ _) n), XP.keep (below_drewN (Below.refl _ _) n), XT.keep (below_drewN (Below.refl _ _) n), X9.keep (below_drewN (Below.refl _ _) n), B.trans ((below_drewN (Below.refl _ _) n).mono B.size)⟩
                have XPa := XP.at.1
                have XPl := XP.lt
                have X9l := X9.lt
                clear XZ XP XT X9 B
                generalize at3 z k = v at *
                generalize hits P z k = hv at *
                go_wp2_with fail
                by_cases h1 : v = P.xFirst
                · have e1 : (v == P.xFirst) = true := by simpa using h1
                  have HHV : Hid (hit P v = 1) := if_pos (.inl h1)
                  clear h1
                  go_quiet (fail)
                  go_wp2
                  go_roundw
                  case rel => exact ⟨k + 1, by omega, by go_num, by rw [HH.out, HHV.out], FF.out _⟩
                  case measure => simp [intOf]; omega
                · have e1 : (v == P.xFirst) = false := by simpa using h1
                  by_cases h2 : v = P.xSecond
                  · have e2 : (v == P.xSecond) = true := by simpa using h2
                    have HHV : Hid (hit P v = 1) := if_pos (.inr h2)
                    clear h1 h2
                    go_quiet (fail)
                    go_wp2
                    go_roundw
                    case rel => exact ⟨k + 1, by omega, by go_num, by rw [HH.out, HHV.out], FF.out _⟩
                    case measure => simp [intOf]; omega
                  · have e2 : (v == P.xSecond) = false := by simpa using h2
                    have HHV : Hid (hit P v = 0) := if_neg (fun h => h.elim h1 h2)
                    clear h1 h2
                    go_quiet (fail)
                    go_wp2
                    go_roundw
                    case rel => exact ⟨k + 1, by omega, by go_num, by rw [HH.out, HHV.out]; simp, FF.out _⟩
                    case measure => simp [intOf]; omega
              · as_aux_lemma =>
                  obtain rfl : k = 3 := by omega
                  rw [HT3.out]
                  clear X9
                  go_wp2_with fail
                  refine wp_region_held (S := fun V => (∀ o, V.cell? ⟨b3, o, none⟩ = (#[.bool z.xSome, .int .i64 z.xFrom, .int .i64 z.xCheck, .int .i64 z.xTo, .int .i64 z.xTold, .int .i64 z.xHeard, .int .i64 z.xOther, .int .i64 z.xVowed] : Array Value)[o]?) ∧ (∀ o, V.cell? ⟨b4, o, none⟩ = (#[.int .i64 P.xCode, .int .i64 P.xFirst, .int .i64 P.xSecond] : Array Value)[o]?) ∧ (∀ o, V.cell? ⟨b5, o, none⟩ = (#[.int .i64 Q.xCode, .int .i64 Q.xValue] : Array Value)[o]?)) (by kernel_rfl) ?_
                  try (change wpAnyH _ _ _ _ _ _ _ _ (World.drew _))
                  replace XZ := XZ.drew
                  replace XP := XP.drew
                  replace XT := XT.drew
                  replace B := B.drew
                  have hS : (∀ o, wr.drew.cell? ⟨b3, o, none⟩ = (#[.bool z.xSome, .int .i64 z.xFrom, .int .i64 z.xCheck, .int .i64 z.xTo, .int .i64 z.xTold, .int .i64 z.xHeard, .int .i64 z.xOther, .int .i64 z.xVowed] : Array Value)[o]?) ∧ (∀ o, wr.drew.cell? ⟨b4, o, none⟩ = (#[.int .i64 P.xCode, .int .i64 P.xFirst, .int .i64 P.xSecond] : Array Value)[o]?) ∧ (∀ o, wr.drew.cell? ⟨b5, o, none⟩ = (#[.int .i64 Q.xCode, .int .i64 Q.xValue] : Array Value)[o]?) := ⟨XZ.at.1, XP.at.1, XT.at.1⟩
                  refine wpAnyH_take (i := 0) (v := ?vn126) rfl (by kernel_rfl) (by kernel_rfl) (by kernel_rfl) (fun _ _ _ h => h) (Or.inl ⟨by rfl, ?hn126⟩) hS ?rn126
                  case hn126 => intro w' hSw; go_simp; (try with_reducible rfl)
                  (try simp only [List.getElem_toArray]); (try simp only [List.getElem_cons_succ]); (try simp only [List.getElem_cons_zero]); (try simp only [Act.put]); (try simp only [List.setIfInBounds_toArray]); (try simp only [List.set_cons_succ]); (try simp only [List.set_cons_zero])
                  refine wpAnyH_take (i := 1) (v := ?vn127) rfl (by kernel_rfl) (by kernel_rfl) (by kernel_rfl) (fun _ _ _ h => h) (Or.inl ⟨by rfl, ?hn127⟩) hS ?rn127
                  case hn127 => intro w' hSw; go_simp; (try with_reducible rfl)
                  (try simp only [List.getElem_toArray]); (try simp only [List.getElem_cons_succ]); (try simp only [List.getElem_cons_zero]); (try simp only [Act.put]); (try simp only [List.setIfInBounds_toArray]); (try simp only [List.set_cons_succ]); (try simp only [List.set_cons_zero])
                  refine wpAnyH_take (i := 2) (v := ?vn128) rfl (by kernel_rfl) (by kernel_rfl) (by kernel_rfl) (fun _ _ _ h => h) (Or.inl ⟨by rfl, ?hn128⟩) hS ?rn128
                  case hn128 => intro w' hSw; go_simp; (try with_reducible rfl)
                  (try simp only [List.getElem_toArray]); (try simp only [List.getElem_cons_succ]); (try simp only [List.getElem_cons_zero]); (try simp only [Act.put]); (try simp only [List.setIfInBounds_toArray]); (try simp only [List.set_cons_succ]); (try simp only [List.set_cons_zero])
                  refine wpAnyH_take (i := 3) (v := ?vn129) rfl (by kernel_rfl) (by kernel_rfl) (by kernel_rfl) (fun _ _ _ h => h) (Or.inl ⟨by rfl, ?hn129⟩) hS ?rn129
                  case hn129 => intro w' hSw; go_simp; (try with_reducible rfl)
                  (try simp only [List.getElem_toArray]); (try simp only [List.getElem_cons_succ]); (try simp only [List.getElem_cons_zero]); (try simp only [Act.put]); (try simp only [List.setIfInBounds_toArray]); (try simp only [List.set_cons_succ]); (try simp only [List.set_cons_zero])
                  refine wpAnyH_take (i := 4) (v := ?vn130) rfl (by kernel_rfl) (by kernel_rfl) (by kernel_rfl) (fun _ _ _ h => h) (Or.inl ⟨by rfl, ?hn130⟩) hS ?rn130
                  case hn130 => intro w' hSw; go_simp; (try with_reducible rfl)
                  (try simp only [List.getElem_toArray]); (try simp only [List.getElem_cons_succ]); (try simp only [List.getElem_cons_zero]); (try simp only [Act.put]); (try simp only [List.setIfInBounds_toArray]); (try simp only [List.set_cons_succ]); (try simp only [List.set_cons_zero])
                  refine wpAnyH_take (i := 5) (v := ?vn131) rfl (by kernel_rfl) (by kernel_rfl) (by kernel_rfl) (fun _ _ _ h => h) (Or.inl ⟨by rfl, ?hn131⟩) hS ?rn131
                  case hn131 => intro w' hSw; go_simp; (try with_reducible rfl)
                  (try simp only [List.getElem_toArray]); (try simp only [List.getElem_cons_succ]); (try simp only [List.getElem_cons_zero]); (try simp only [Act.put]); (try simp only [List.setIfInBounds_toArray]); (try simp only [List.set_cons_succ]); (try simp only [List.set_cons_zero])
                  refine wpAnyH_take (i := 6) (v := ?vn132) rfl (by kernel_rfl) (by kernel_rfl) (by kernel_rfl) (fun _ _ _ h => h) (Or.inl ⟨by rfl, ?hn132⟩) hS ?rn132
                  case hn132 => intro w' hSw; go_simp; (try with_reducible rfl)
                  (try simp only [List.getElem_toArray]); (try simp only [List.getElem_cons_succ]); (try simp only [List.getElem_cons_zero]); (try simp only [Act.put]); (try simp only [List.setIfInBounds_toArray]); (try simp only [List.set_cons_succ]); (try simp only [List.set_cons_zero])
                  refine wpAnyH_take (i := 7) (v := ?vn133) rfl (by kernel_rfl) (by kernel_rfl) (by kernel_rfl) (fun _ _ _ h => h) (Or.inl ⟨by rfl, ?hn133⟩) hS ?rn133
                  case hn133 => intro w' hSw; go_simp; (try with_reducible rfl)
                  (try simp only [List.getElem_toArray]); (try simp only [List.getElem_cons_succ]); (try simp only [List.getElem_cons_zero]); (try simp only [Act.put]); (try simp only [List.setIfInBounds_toArray]); (try simp only [List.set_cons_succ]); (try simp only [List.set_cons_zero])
                  refine wpAnyH_take (i := 8) (v := ?vn134) rfl (by kernel_rfl) (by kernel_rfl) (by kernel_rfl) (fun _ _ _ h => h) (Or.inl ⟨by rfl, ?hn134⟩) hS ?rn134
                  case hn134 => intro w' hSw; go_simp; (try with_reducible rfl)
                  (try simp only [List.getElem_toArray]); (try simp only [List.getElem_cons_succ]); (try simp only [List.getElem_cons_zero]); (try simp only [Act.put]); (try simp only [List.setIfInBounds_toArray]); (try simp only [List.set_cons_succ]); (try simp only [List.set_cons_zero])
                  refine wpAnyH_take (i := 9) (v := ?vn135) rfl (by kernel_rfl) (by kernel_rfl) (by kernel_rfl) (fun _ _ _ h => h) (Or.inl ⟨by rfl, ?hn135⟩) hS ?rn135
                  case hn135 => intro w' hSw; go_simp; (try with_reducible rfl)
                  (try simp only [List.getElem_toArray]); (try simp only [List.getElem_cons_succ]); (try simp only [List.getElem_cons_zero]); (try simp only [Act.put]); (try simp only [List.setIfInBounds_toArray]); (try simp only [List.set_cons_succ]); (try simp only [List.set_cons_zero])
                  refine wpAnyH_take (i := 10) (v := ?vn136) rfl (by kernel_rfl) (by kernel_rfl) (by kernel_rfl) (fun _ _ _ h => h) (Or.inl ⟨by rfl, ?hn136⟩) hS ?rn136
                  case hn136 => intro w' hSw; go_simp; (try with_reducible rfl)
                  (try simp only [List.getElem_toArray]); (try simp only [List.getElem_cons_succ]); (try simp only [List.getElem_cons_zero]); (try simp only [Act.put]); (try simp only [List.setIfInBounds_toArray]); (try simp only [List.set_cons_succ]); (try simp only [List.set_cons_zero])
                  refine wpAnyH_take (i := 11) (v := ?vn137) rfl (by kernel_rfl) (by kernel_rfl) (by kernel_rfl) (fun _ _ _ h => h) (Or.inl ⟨by rfl, ?hn137⟩) hS ?rn137
                  case hn137 => intro w' hSw; go_simp; (try with_reducible rfl)
                  (try simp only [List.getElem_toArray]); (try simp only [List.getElem_cons_succ]); (try simp only [List.getElem_cons_zero]); (try simp only [Act.put]); (try simp only [List.setIfInBounds_toArray]); (try simp only [List.set_cons_succ]); (try simp only [List.set_cons_zero])
                  refine wpAnyH_take (i := 12) (v := ?vn138) rfl (by kernel_rfl) (by kernel_rfl) (by kernel_rfl) (fun _ _ _ h => h) (Or.inl ⟨by rfl, ?hn138⟩) hS ?rn138
                  case hn138 => intro w' hSw; go_simp; (try with_reducible rfl)
                  (try simp only [List.getElem_toArray]); (try simp only [List.getElem_cons_succ]); (try simp only [List.getElem_cons_zero]); (try simp only [Act.put]); (try simp only [List.setIfInBounds_toArray]); (try simp only [List.set_cons_succ]); (try simp only [List.set_cons_zero])
                  refine wpAnyH_take (i := 13) (v := ?vn139) rfl (by kernel_rfl) (by kernel_rfl) (by kernel_rfl) (fun _ _ _ h => h) (Or.inl ⟨by rfl, ?hn139⟩) hS ?rn139
                  case hn139 => intro w' hSw; go_simp; (try with_reducible rfl)
                  (try simp only [List.getElem_toArray]); (try simp only [List.getElem_cons_succ]); (try simp only [List.getElem_cons_zero]); (try simp only [Act.put]); (try simp only [List.setIfInBounds_toArray]); (try simp only [List.set_cons_succ]); (try simp only [List.set_cons_zero])
                  refine wpAnyH_take (i := 14) (v := ?vn140) rfl (by kernel_rfl) (by kernel_rfl) (by kernel_rfl) (fun _ _ _ h => h) (Or.inl ⟨by rfl, ?hn140⟩) hS ?rn140
                  case hn140 => intro w' hSw; go_simp; (try with_reducible rfl)
                  (try simp only [List.getElem_toArray]); (try simp only [List.getElem_cons_succ]); (try simp only [List.getElem_cons_zero]); (try simp only [Act.put]); (try simp only [List.setIfInBounds_toArray]); (try simp only [List.set_cons_succ]); (try simp only [List.set_cons_zero])
                  refine wpAnyH_take (i := 15) (v := ?vn141) rfl (by kernel_rfl) (by kernel_rfl) (by kernel_rfl) (fun _ _ _ h => h) (Or.inl ⟨by rfl, ?hn141⟩) hS ?rn141
                  case hn141 => intro w' hSw; go_simp; (try with_reducible rfl)
                  (try simp only [List.getElem_toArray]); (try simp only [List.getElem_cons_succ]); (try simp only [List.getElem_cons_zero]); (try simp only [Act.put]); (try simp only [List.setIfInBounds_toArray]); (try simp only [List.set_cons_succ]); (try simp only [List.set_cons_zero])
                  refine wpAnyH_take (i := 16) (v := ?vn142) rfl (by kernel_rfl) (by kernel_rfl) (by kernel_rfl) (fun _ _ _ h => h) (Or.inl ⟨by rfl, ?hn142⟩) hS ?rn142
                  case hn142 => intro w' hSw; go_simp; (try with_reducible rfl)
                  (try simp only [List.getElem_toArray]); (try simp only [List.getElem_cons_succ]); (try simp only [List.getElem_cons_zero]); (try simp only [Act.put]); (try simp only [List.setIfInBounds_toArray]); (try simp only [List.set_cons_succ]); (try simp only [List.set_cons_zero])
                  refine wpAnyH_take (i := 17) (v := ?vn143) rfl (by kernel_rfl) (by kernel_rfl) (by kernel_rfl) (fun _ _ _ h => h) (Or.inl ⟨by rfl, ?hn143⟩) hS ?rn143
                  case hn143 => intro w' hSw; go_simp; (try with_reducible rfl)
                  (try simp only [List.getElem_toArray]); (try simp only [List.getElem_cons_succ]); (try simp only [List.getElem_cons_zero]); (try simp only [Act.put]); (try simp only [List.setIfInBounds_toArray]); (try simp only [List.set_cons_succ]); (try simp only [List.set_cons_zero])
                  refine wpAnyH_take (i := 18) (v := ?vn144) rfl (by kernel_rfl) (by kernel_rfl) (by kernel_rfl) (fun _ _ _ h => h) (Or.inl ⟨by rfl, ?hn144⟩) hS ?rn144
                  case hn144 => intro w' hSw; go_simp; (try with_reducible rfl)
                  (try simp only [List.getElem_toArray]); (try simp only [List.getElem_cons_succ]); (try simp only [List.getElem_cons_zero]); (try simp only [Act.put]); (try simp only [List.setIfInBounds_toArray]); (try simp only [List.set_cons_succ]); (try simp only [List.set_cons_zero])
                  refine wpAnyH_take (i := 19) (v := ?vn145) rfl (by kernel_rfl) (by kernel_rfl) (by kernel_rfl) (fun _ _ _ h => h) (Or.inl ⟨by rfl, ?hn145⟩) hS ?rn145
                  case hn145 => intro w' hSw; go_simp; (try with_reducible rfl)
                  (try simp only [List.getElem_toArray]); (try simp only [List.getElem_cons_succ]); (try simp only [List.getElem_cons_zero]); (try simp only [Act.put]); (try simp only [List.setIfInBounds_toArray]); (try simp only [List.set_cons_succ]); (try simp only [List.set_cons_zero])
                  refine wpAnyH_take (i := 20) (v := ?vn146) rfl (by kernel_rfl) (by kernel_rfl) (by kernel_rfl) (fun _ _ _ h => h) (Or.inl ⟨by rfl, ?hn146⟩) hS ?rn146
                  case hn146 => intro w' hSw; go_simp; (try with_reducible rfl)
                  (try simp only [List.getElem_toArray]); (try simp only [List.getElem_cons_succ]); (try simp only [List.getElem_cons_zero]); (try simp only [Act.put]); (try simp only [List.setIfInBounds_toArray]); (try simp only [List.set_cons_succ]); (try simp only [List.set_cons_zero])
                  refine wpAnyH_take (i := 21) (v := ?vn147) rfl (by kernel_rfl) (by kernel_rfl) (by kernel_rfl) (fun _ _ _ h => h) (Or.inl ⟨by rfl, ?hn147⟩) hS ?rn147
                  case hn147 => intro w' hSw; go_simp; (try with_reducible rfl)
                  (try simp only [List.getElem_toArray]); (try simp only [List.getElem_cons_succ]); (try simp only [List.getElem_cons_zero]); (try simp only [Act.put]); (try simp only [List.setIfInBounds_toArray]); (try simp only [List.set_cons_succ]); (try simp only [List.set_cons_zero])
                  refine wpAnyH_take (i := 22) (v := ?vn148) rfl (by kernel_rfl) (by kernel_rfl) (by kernel_rfl) (fun _ _ _ h => h) (Or.inl ⟨by rfl, ?hn148⟩) hS ?rn148
                  case hn148 => intro w' hSw; go_simp; (try with_reducible rfl)
                  (try simp only [List.getElem_toArray]); (try simp only [List.getElem_cons_succ]); (try simp only [List.getElem_cons_zero]); (try simp only [Act.put]); (try simp only [List.setIfInBounds_toArray]); (try simp only [List.set_cons_succ]); (try simp only [List.set_cons_zero])
                  refine wpAnyH_take (i := 23) (v := ?vn149) rfl (by kernel_rfl) (by kernel_rfl) (by kernel_rfl) (fun _ _ _ h => h) (Or.inl ⟨by rfl, ?hn149⟩) hS ?rn149
                  case hn149 => intro w' hSw; go_simp; (try with_reducible rfl)
                  (try simp only [List.getElem_toArray]); (try simp only [List.getElem_cons_succ]); (try simp only [List.getElem_cons_zero]); (try simp only [Act.put]); (try simp only [List.setIfInBounds_toArray]); (try simp only [List.set_cons_succ]); (try simp only [List.set_cons_zero])
                  refine wpAnyH_take (i := 24) (v := ?vn150) rfl (by kernel_rfl) (by kernel_rfl) (by kernel_rfl) (fun _ _ _ h => h) (Or.inl ⟨by rfl, ?hn150⟩) hS ?rn150
                  case hn150 => intro w' hSw; go_simp; (try with_reducible rfl)
                  (try simp only [List.getElem_toArray]); (try simp only [List.getElem_cons_succ]); (try simp only [List.getElem_cons_zero]); (try simp only [Act.put]); (try simp only [List.setIfInBounds_toArray]); (try simp only [List.set_cons_succ]); (try simp only [List.set_cons_zero])
                  refine wpAnyH_take (i := 25) (v := ?vn151) rfl (by kernel_rfl) (by kernel_rfl) (by kernel_rfl) (fun _ _ _ h => h) (Or.inl ⟨by rfl, ?hn151⟩) hS ?rn151
                  case hn151 => intro w' hSw; go_simp; (try with_reducible rfl)
                  (try simp only [List.getElem_toArray]); (try simp only [List.getElem_cons_succ]); (try simp only [List.getElem_cons_zero]); (try simp only [Act.put]); (try simp only [List.setIfInBounds_toArray]); (try simp only [List.set_cons_succ]); (try simp only [List.set_cons_zero])
                  refine wpAnyH_take (i := 26) (v := ?vn152) rfl (by kernel_rfl) (by kernel_rfl) (by kernel_rfl) (fun _ _ _ h => h) (Or.inl ⟨by rfl, ?hn152⟩) hS ?rn152
                  case hn152 => intro w' hSw; go_simp; (try with_reducible rfl)
                  (try simp only [List.getElem_toArray]); (try simp only [List.getElem_cons_succ]); (try simp only [List.getElem_cons_zero]); (try simp only [Act.put]); (try simp only [List.setIfInBounds_toArray]); (try simp only [List.set_cons_succ]); (try simp only [List.set_cons_zero])
                  refine wpAnyH_take (i := 27) (v := ?vn153) rfl (by kernel_rfl) (by kernel_rfl) (by kernel_rfl) (fun _ _ _ h => h) (Or.inl ⟨by rfl, ?hn153⟩) hS ?rn153
                  case hn153 => intro w' hSw; go_simp; (try with_reducible rfl)
                  (try simp only [List.getElem_toArray]); (try simp only [List.getElem_cons_succ]); (try simp only [List.getElem_cons_zero]); (try simp only [Act.put]); (try simp only [List.setIfInBounds_toArray]); (try simp only [List.set_cons_succ]); (try simp only [List.set_cons_zero])
                  refine wpAnyH_take (i := 28) (v := ?vn154) rfl (by kernel_rfl) (by kernel_rfl) (by kernel_rfl) (fun _ _ _ h => h) (Or.inl ⟨by rfl, ?hn154⟩) hS ?rn154
                  case hn154 => intro w' hSw; go_simp; (try with_reducible rfl)
                  (try simp only [List.getElem_toArray]); (try simp only [List.getElem_cons_succ]); (try simp only [List.getElem_cons_zero]); (try simp only [Act.put]); (try simp only [List.setIfInBounds_toArray]); (try simp only [List.set_cons_succ]); (try simp only [List.set_cons_zero])
                  refine wpAnyH_take (i := 29) (v := ?vn155) rfl (by kernel_rfl) (by kernel_rfl) (by kernel_rfl) (fun _ _ _ h => h) (Or.inl ⟨by rfl, ?hn155⟩) hS ?rn155
                  case hn155 => intro w' hSw; go_simp; (try with_reducible rfl)
                  (try simp only [List.getElem_toArray]); (try simp only [List.getElem_cons_succ]); (try simp only [List.getElem_cons_zero]); (try simp only [Act.put]); (try simp only [List.setIfInBounds_toArray]); (try simp only [List.set_cons_succ]); (try simp only [List.set_cons_zero])
                  refine wpAnyH_take (i := 30) (v := ?vn156) rfl (by kernel_rfl) (by kernel_rfl) (by kernel_rfl) (fun _ _ _ h => h) (Or.inl ⟨by rfl, ?hn156⟩) hS ?rn156
                  case hn156 => intro w' hSw; go_simp; (try with_reducible rfl)
                  (try simp only [List.getElem_toArray]); (try simp only [List.getElem_cons_succ]); (try simp only [List.getElem_cons_zero]); (try simp only [Act.put]); (try simp only [List.setIfInBounds_toArray]); (try simp only [List.set_cons_succ]); (try simp only [List.set_cons_zero])
                  refine wpAnyH_take (i := 31) (v := ?vn157) rfl (by kernel_rfl) (by kernel_rfl) (by kernel_rfl) (fun _ _ _ h => h) (Or.inl ⟨by rfl, ?hn157⟩) hS ?rn157
                  case hn157 => intro w' hSw; go_simp; (try with_reducible rfl)
                  (try simp only [List.getElem_toArray]); (try simp only [List.getElem_cons_succ]); (try simp only [List.getElem_cons_zero]); (try simp only [Act.put]); (try simp only [List.setIfInBounds_toArray]); (try simp only [List.set_cons_succ]); (try simp only [List.set_cons_zero])
                  refine wpAnyH_take (i := 32) (v := ?vn158) rfl (by kernel_rfl) (by kernel_rfl) (by kernel_rfl) (fun _ _ _ h => h) (Or.inl ⟨by rfl, ?hn158⟩) hS ?rn158
                  case hn158 => intro w' hSw; go_simp; (try with_reducible rfl)
                  (try simp only [List.getElem_toArray]); (try simp only [List.getElem_cons_succ]); (try simp only [List.getElem_cons_zero]); (try simp only [Act.put]); (try simp only [List.setIfInBounds_toArray]); (try simp only [List.set_cons_succ]); (try simp only [List.set_cons_zero])
                  refine wpAnyH_take (i := 33) (v := ?vn159) rfl (by kernel_rfl) (by kernel_rfl) (by kernel_rfl) (fun _ _ _ h => h) (Or.inl ⟨by rfl, ?hn159⟩) hS ?rn159
                  case hn159 => intro w' hSw; go_simp; (try with_reducible rfl)
                  (try simp only [List.getElem_toArray]); (try simp only [List.getElem_cons_succ]); (try simp only [List.getElem_cons_zero]); (try simp only [Act.put]); (try simp only [List.setIfInBounds_toArray]); (try simp only [List.set_cons_succ]); (try simp only [List.set_cons_zero])
                  refine wpAnyH_take (i := 34) (v := ?vn160) rfl (by kernel_rfl) (by kernel_rfl) (by kernel_rfl) (fun _ _ _ h => h) (Or.inl ⟨by rfl, ?hn160⟩) hS ?rn160
                  case hn160 => intro w' hSw; go_simp; (try with_reducible rfl)
                  (try simp only [List.getElem_toArray]); (try simp only [List.getElem_cons_succ]); (try simp only [List.getElem_cons_zero]); (try simp only [Act.put]); (try simp only [List.setIfInBounds_toArray]); (try simp only [List.set_cons_succ]); (try simp only [List.set_cons_zero])
                  refine wpAnyH_take (i := 35) (v := ?vn161) rfl (by kernel_rfl) (by kernel_rfl) (by kernel_rfl) (fun _ _ _ h => h) (Or.inl ⟨by rfl, ?hn161⟩) hS ?rn161
                  case hn161 => intro w' hSw; go_simp; (try with_reducible rfl)
                  (try simp only [List.getElem_toArray]); (try simp only [List.getElem_cons_succ]); (try simp only [List.getElem_cons_zero]); (try simp only [Act.put]); (try simp only [List.setIfInBounds_toArray]); (try simp only [List.set_cons_succ]); (try simp only [List.set_cons_zero])
                  refine wpAnyH_take (i := 36) (v := ?vn162) rfl (by kernel_rfl) (by kernel_rfl) (by kernel_rfl) (fun _ _ _ h => h) (Or.inl ⟨by rfl, ?hn162⟩) hS ?rn162
                  case hn162 => intro w' hSw; go_simp; (try with_reducible rfl)
                  (try simp only [List.getElem_toArray]); (try simp only [List.getElem_cons_succ]); (try simp only [List.getElem_cons_zero]); (try simp only [Act.put]); (try simp only [List.setIfInBounds_toArray]); (try simp only [List.set_cons_succ]); (try simp only [List.set_cons_zero])
                  refine wpAnyH_take (i := 37) (v := ?vn163) rfl (by kernel_rfl) (by kernel_rfl) (by kernel_rfl) (fun _ _ _ h => h) (Or.inl ⟨by rfl, ?hn163⟩) hS ?rn163
                  case hn163 => intro w' hSw; go_simp; (try with_reducible rfl)
                  (try simp only [List.getElem_toArray]); (try simp only [List.getElem_cons_succ]); (try simp only [List.getElem_cons_zero]); (try simp only [Act.put]); (try simp only [List.setIfInBounds_toArray]); (try simp only [List.set_cons_succ]); (try simp only [List.set_cons_zero])
                  refine wpAnyH_take (i := 38) (v := ?vn164) rfl (by kernel_rfl) (by kernel_rfl) (by kernel_rfl) (fun _ _ _ h => h) (Or.inl ⟨by rfl, ?hn164⟩) hS ?rn164
                  case hn164 => intro w' hSw; go_simp; (try with_reducible rfl)
                  (try simp only [List.getElem_toArray]); (try simp only [List.getElem_cons_succ]); (try simp only [List.getElem_cons_zero]); (try simp only [Act.put]); (try simp only [List.setIfInBounds_toArray]); (try simp only [List.set_cons_succ]); (try simp only [List.set_cons_zero])
                  refine wpAnyH_take (i := 39) (v := ?vn165) rfl (by kernel_rfl) (by kernel_rfl) (by kernel_rfl) (fun _ _ _ h => h) (Or.inl ⟨by rfl, ?hn165⟩) hS ?rn165
                  case hn165 => intro w' hSw; go_simp; (try with_reducible rfl)
                  (try simp only [List.getElem_toArray]); (try simp only [List.getElem_cons_succ]); (try simp only [List.getElem_cons_zero]); (try simp only [Act.put]); (try simp only [List.setIfInBounds_toArray]); (try simp only [List.set_cons_succ]); (try simp only [List.set_cons_zero])
                  refine wpAnyH_take (i := 40) (v := ?vn166) rfl (by kernel_rfl) (by kernel_rfl) (by kernel_rfl) (fun _ _ _ h => h) (Or.inl ⟨by rfl, ?hn166⟩) hS ?rn166
                  case hn166 => intro w' hSw; go_simp; (try with_reducible rfl)
                  (try simp only [List.getElem_toArray]); (try simp only [List.getElem_cons_succ]); (try simp only [List.getElem_cons_zero]); (try simp only [Act.put]); (try simp only [List.setIfInBounds_toArray]); (try simp only [List.set_cons_succ]); (try simp only [List.set_cons_zero])
                  refine wpAnyH_take (i := 41) (v := ?vn167) rfl (by kernel_rfl) (by kernel_rfl) (by kernel_rfl) (fun _ _ _ h => h) (Or.inl ⟨by rfl, ?hn167⟩) hS ?rn167
                  case hn167 => intro w' hSw; go_simp; (try with_reducible rfl)
                  (try simp only [List.getElem_toArray]); (try simp only [List.getElem_cons_succ]); (try simp only [List.getElem_cons_zero]); (try simp only [Act.put]); (try simp only [List.setIfInBounds_toArray]); (try simp only [List.set_cons_succ]); (try simp only [List.set_cons_zero])
                  refine wpAnyH_ready (rs := [42]) (by kernel_rfl) (by simp) ?_
                  refine AllReadyH.cons (o := _) rfl (fun K hK => ?_) AllReadyH.nil
                  rw [if_pos (by rfl)]
                  go_simp
                  go_at_call 29
                  clear hS
                  refine (KQS _ rfl).mono ?_
                  rintro e w16 ⟨ut, rfl, hut, k16⟩
                  unfold RdIntResult at hut
                  subst hut
                  replace XZ := XZ.keep k16
                  replace XP := XP.keep k16
                  replace XT := XT.keep k16
                  replace B := B.trans (k16.mono B.size)
                  clear k16
                  have hS : (∀ o, w16.cell? ⟨b3, o, none⟩ = (#[.bool z.xSome, .int .i64 z.xFrom, .int .i64 z.xCheck, .int .i64 z.xTo, .int .i64 z.xTold, .int .i64 z.xHeard, .int .i64 z.xOther, .int .i64 z.xVowed] : Array Value)[o]?) ∧ (∀ o, w16.cell? ⟨b4, o, none⟩ = (#[.int .i64 P.xCode, .int .i64 P.xFirst, .int .i64 P.xSecond] : Array Value)[o]?) ∧ (∀ o, w16.cell? ⟨b5, o, none⟩ = (#[.int .i64 Q.xCode, .int .i64 Q.xValue] : Array Value)[o]?) := ⟨XZ.at.1, XP.at.1, XT.at.1⟩
                  refine hK.out _ _ hS (fun hS => ?_)
                  clear hK K
                  (try simp only [List.getElem_toArray]); (try simp only [List.getElem_cons_succ]); (try simp only [List.getElem_cons_zero]); (try simp only [Act.put]); (try simp only [List.setIfInBounds_toArray]); (try simp only [List.set_cons_succ]); (try simp only [List.set_cons_zero])
                  refine wpAnyH_take (i := 43) (v := ?vn168) rfl (by kernel_rfl) (by kernel_rfl) (by kernel_rfl) (fun _ _ _ h => h) (Or.inl ⟨by rfl, ?hn168⟩) hS ?rn168
                  case hn168 => intro w' hSw; go_simp; (try with_reducible rfl)
                  (try simp only [List.getElem_toArray]); (try simp only [List.getElem_cons_succ]); (try simp only [List.getElem_cons_zero]); (try simp only [Act.put]); (try simp only [List.setIfInBounds_toArray]); (try simp only [List.set_cons_succ]); (try simp only [List.set_cons_zero])
                  refine wpAnyH_take (i := 44) (v := ?vn169) rfl (by kernel_rfl) (by kernel_rfl) (by kernel_rfl) (fun _ _ _ h => h) (Or.inl ⟨by rfl, ?hn169⟩) hS ?rn169
                  case hn169 => intro w' hSw; go_simp; (try with_reducible rfl)
                  (try simp only [List.getElem_toArray]); (try simp only [List.getElem_cons_succ]); (try simp only [List.getElem_cons_zero]); (try simp only [Act.put]); (try simp only [List.setIfInBounds_toArray]); (try simp only [List.set_cons_succ]); (try simp only [List.set_cons_zero])
                  refine wpAnyH_take (i := 45) (v := ?vn170) rfl (by kernel_rfl) (by kernel_rfl) (by kernel_rfl) (fun _ _ _ h => h) (Or.inl ⟨by rfl, ?hn170⟩) hS ?rn170
                  case hn170 => intro w' hSw; go_simp; (try with_reducible rfl)
                  (try simp only [List.getElem_toArray]); (try simp only [List.getElem_cons_succ]); (try simp only [List.getElem_cons_zero]); (try simp only [Act.put]); (try simp only [List.setIfInBounds_toArray]); (try simp only [List.set_cons_succ]); (try simp only [List.set_cons_zero])
                  refine wpAnyH_take (i := 46) (v := ?vn171) rfl (by kernel_rfl) (by kernel_rfl) (by kernel_rfl) (fun _ _ _ h => h) (Or.inl ⟨by rfl, ?hn171⟩) hS ?rn171
                  case hn171 => intro w' hSw; go_simp; (try with_reducible rfl)
                  (try simp only [List.getElem_toArray]); (try simp only [List.getElem_cons_succ]); (try simp only [List.getElem_cons_zero]); (try simp only [Act.put]); (try simp only [List.setIfInBounds_toArray]); (try simp only [List.set_cons_succ]); (try simp only [List.set_cons_zero])
                  refine wpAnyH_done (by kernel_rfl) ?_ _
                  clear hS
                  go_wp2
                  go_ret
                  exact ⟨rfl, B⟩
        · as_aux_lemma =>
            have ef : (P.xCode != 0) = true := by simpa using hf
            have hQ := HK.out hf
            subst hQ
            dsimp only at XT
            have ep : (P.xCode == P.xCode) = true := by simp
            clear hf HJ HK KQS
            go_wp2_with fail
            clear XPa XPl
            refine wp_region_held (S := fun V => (∀ o, V.cell? ⟨b3, o, none⟩ = (#[.bool z.xSome, .int .i64 z.xFrom, .int .i64 z.xCheck, .int .i64 z.xTo, .int .i64 z.xTold, .int .i64 z.xHeard, .int .i64 z.xOther, .int .i64 z.xVowed] : Array Value)[o]?) ∧ (∀ o, V.cell? ⟨b4, o, none⟩ = (#[.int .i64 P.xCode, .int .i64 P.xFirst, .int .i64 P.xSecond] : Array Value)[o]?) ∧ (∀ o, V.cell? ⟨b5, o, none⟩ = (#[.int .i64 P.xCode, .int .i64 0] : Array Value)[o]?)) (by kernel_rfl) ?_
            try (change wpAnyH _ _ _ _ _ _ _ _ (World.drew _))
            replace XZ := XZ.drew
            replace XP := XP.drew
            replace XT := XT.drew
            replace B := B.drew
            have hS : (∀ o, wz.drew.cell? ⟨b3, o, none⟩ = (#[.bool z.xSome, .int .i64 z.xFrom, .int .i64 z.xCheck, .int .i64 z.xTo, .int .i64 z.xTold, .int .i64 z.xHeard, .int .i64 z.xOther, .int .i64 z.xVowed] : Array Value)[o]?) ∧ (∀ o, wz.drew.cell? ⟨b4, o, none⟩ = (#[.int .i64 P.xCode, .int .i64 P.xFirst, .int .i64 P.xSecond] : Array Value)[o]?) ∧ (∀ o, wz.drew.cell? ⟨b5, o, none⟩ = (#[.int .i64 P.xCode, .int .i64 0] : Array Value)[o]?) := ⟨XZ.at.1, XP.at.1, XT.at.1⟩
            refine wpAnyH_take (i := 0) (v := ?vn172) rfl (by kernel_rfl) (by kernel_rfl) (by kernel_rfl) (fun _ _ _ h => h) (Or.inl ⟨by rfl, ?hn172⟩) hS ?rn172
            case hn172 => intro w' hSw; go_simp; (try with_reducible rfl)
            (try simp only [List.getElem_toArray]); (try simp only [List.getElem_cons_succ]); (try simp only [List.getElem_cons_zero]); (try simp only [Act.put]); (try simp only [List.setIfInBounds_toArray]); (try simp only [List.set_cons_succ]); (try simp only [List.set_cons_zero])
            refine wpAnyH_take (i := 3) (v := ?vn173) rfl (by kernel_rfl) (by kernel_rfl) (by kernel_rfl) (fun _ _ _ h => h) (Or.inl ⟨by rfl, ?hn173⟩) hS ?rn173
            case hn173 => intro w' hSw; go_simp; (try with_reducible rfl)
            (try simp only [List.getElem_toArray]); (try simp only [List.getElem_cons_succ]); (try simp only [List.getElem_cons_zero]); (try simp only [Act.put]); (try simp only [List.setIfInBounds_toArray]); (try simp only [List.set_cons_succ]); (try simp only [List.set_cons_zero])
            refine wpAnyH_take (i := 4) (v := ?vn174) rfl (by kernel_rfl) (by kernel_rfl) (by kernel_rfl) (fun _ _ _ h => h) (Or.inl ⟨by rfl, ?hn174⟩) hS ?rn174
            case hn174 => intro w' hSw; go_simp; (try with_reducible rfl)
            (try simp only [List.getElem_toArray]); (try simp only [List.getElem_cons_succ]); (try simp only [List.getElem_cons_zero]); (try simp only [Act.put]); (try simp only [List.setIfInBounds_toArray]); (try simp only [List.set_cons_succ]); (try simp only [List.set_cons_zero])
            refine wpAnyH_ready (rs := [1]) (by kernel_rfl) (by simp) ?_
            refine AllReadyH.cons (o := _) rfl (fun K hK => ?_) AllReadyH.nil
            rw [if_pos (by rfl)]
            go_simp
            go_at_call 28
            clear hS
            refine (KPS _ rfl).mono ?_
            rintro e w17 ⟨ut, rfl, hut, k17⟩
            unfold RdPairResult at hut
            subst hut
            replace XZ := XZ.keep k17
            replace XP := XP.keep k17
            replace XT := XT.keep k17
            replace B := B.trans (k17.mono B.size)
            clear k17
            have hS : (∀ o, w17.cell? ⟨b3, o, none⟩ = (#[.bool z.xSome, .int .i64 z.xFrom, .int .i64 z.xCheck, .int .i64 z.xTo, .int .i64 z.xTold, .int .i64 z.xHeard, .int .i64 z.xOther, .int .i64 z.xVowed] : Array Value)[o]?) ∧ (∀ o, w17.cell? ⟨b4, o, none⟩ = (#[.int .i64 P.xCode, .int .i64 P.xFirst, .int .i64 P.xSecond] : Array Value)[o]?) ∧ (∀ o, w17.cell? ⟨b5, o, none⟩ = (#[.int .i64 P.xCode, .int .i64 0] : Array Value)[o]?) := ⟨XZ.at.1, XP.at.1, XT.at.1⟩
            refine hK.out _ _ hS (fun hS => ?_)
            clear hK K
            (try simp only [List.getElem_toArray]); (try simp only [List.getElem_cons_succ]); (try simp only [List.getElem_cons_zero]); (try simp only [Act.put]); (try simp only [List.setIfInBounds_toArray]); (try simp only [List.set_cons_succ]); (try simp only [List.set_cons_zero])
            refine wpAnyH_take (i := 2) (v := ?vn175) rfl (by kernel_rfl) (by kernel_rfl) (by kernel_rfl) (fun _ _ _ h => h) (Or.inl ⟨by rfl, ?hn175⟩) hS ?rn175
            case hn175 => intro w' hSw; go_simp; (try with_reducible rfl)
            (try simp only [List.getElem_toArray]); (try simp only [List.getElem_cons_succ]); (try simp only [List.getElem_cons_zero]); (try simp only [Act.put]); (try simp only [List.setIfInBounds_toArray]); (try simp only [List.set_cons_succ]); (try simp only [List.set_cons_zero])
            refine wpAnyH_take (i := 5) (v := ?vn176) rfl (by kernel_rfl) (by kernel_rfl) (by kernel_rfl) (fun _ _ _ h => h) (Or.inl ⟨by rfl, ?hn176⟩) hS ?rn176
            case hn176 => intro w' hSw; go_simp; (try with_reducible rfl)
            (try simp only [List.getElem_toArray]); (try simp only [List.getElem_cons_succ]); (try simp only [List.getElem_cons_zero]); (try simp only [Act.put]); (try simp only [List.setIfInBounds_toArray]); (try simp only [List.set_cons_succ]); (try simp only [List.set_cons_zero])
            refine wpAnyH_take (i := 6) (v := ?vn177) rfl (by kernel_rfl) (by kernel_rfl) (by kernel_rfl) (fun _ _ _ h => h) (Or.inl ⟨by rfl, ?hn177⟩) hS ?rn177
            case hn177 => intro w' hSw; go_simp; (try with_reducible rfl)
            (try simp only [List.getElem_toArray]); (try simp only [List.getElem_cons_succ]); (try simp only [List.getElem_cons_zero]); (try simp only [Act.put]); (try simp only [List.setIfInBounds_toArray]); (try simp only [List.set_cons_succ]); (try simp only [List.set_cons_zero])
            refine wpAnyH_take (i := 7) (v := ?vn178) rfl (by kernel_rfl) (by kernel_rfl) (by kernel_rfl) (fun _ _ _ h => h) (Or.inl ⟨by rfl, ?hn178⟩) hS ?rn178
            case hn178 => intro w' hSw; go_simp; (try with_reducible rfl)
            (try simp only [List.getElem_toArray]); (try simp only [List.getElem_cons_succ]); (try simp only [List.getElem_cons_zero]); (try simp only [Act.put]); (try simp only [List.setIfInBounds_toArray]); (try simp only [List.set_cons_succ]); (try simp only [List.set_cons_zero])
            refine wpAnyH_take (i := 8) (v := ?vn179) rfl (by kernel_rfl) (by kernel_rfl) (by kernel_rfl) (fun _ _ _ h => h) (Or.inl ⟨by rfl, ?hn179⟩) hS ?rn179
            case hn179 => intro w' hSw; go_simp; (try with_reducible rfl)
            (try simp only [List.getElem_toArray]); (try simp only [List.getElem_cons_succ]); (try simp only [List.getElem_cons_zero]); (try simp only [Act.put]); (try simp only [List.setIfInBounds_toArray]); (try simp only [List.set_cons_succ]); (try simp only [List.set_cons_zero])
            refine wpAnyH_take (i := 9) (v := ?vn180) rfl (by kernel_rfl) (by kernel_rfl) (by kernel_rfl) (fun _ _ _ h => h) (Or.inl ⟨by rfl, ?hn180⟩) hS ?rn180
            case hn180 => intro w' hSw; go_simp; (try with_reducible rfl)
            (try simp only [List.getElem_toArray]); (try simp only [List.getElem_cons_succ]); (try simp only [List.getElem_cons_zero]); (try simp only [Act.put]); (try simp only [List.setIfInBounds_toArray]); (try simp only [List.set_cons_succ]); (try simp only [List.set_cons_zero])
            refine wpAnyH_take (i := 10) (v := ?vn181) rfl (by kernel_rfl) (by kernel_rfl) (by kernel_rfl) (fun _ _ _ h => h) (Or.inl ⟨by rfl, ?hn181⟩) hS ?rn181
            case hn181 => intro w' hSw; go_simp; (try with_reducible rfl)
            (try simp only [List.getElem_toArray]); (try simp only [List.getElem_cons_succ]); (try simp only [List.getElem_cons_zero]); (try simp only [Act.put]); (try simp only [List.setIfInBounds_toArray]); (try simp only [List.set_cons_succ]); (try simp only [List.set_cons_zero])
            refine wpAnyH_take (i := 11) (v := ?vn182) rfl (by kernel_rfl) (by kernel_rfl) (by kernel_rfl) (fun _ _ _ h => h) (Or.inl ⟨by rfl, ?hn182⟩) hS ?rn182
            case hn182 => intro w' hSw; go_simp; (try with_reducible rfl)
            (try simp only [List.getElem_toArray]); (try simp only [List.getElem_cons_succ]); (try simp only [List.getElem_cons_zero]); (try simp only [Act.put]); (try simp only [List.setIfInBounds_toArray]); (try simp only [List.set_cons_succ]); (try simp only [List.set_cons_zero])
            refine wpAnyH_take (i := 12) (v := ?vn183) rfl (by kernel_rfl) (by kernel_rfl) (by kernel_rfl) (fun _ _ _ h => h) (Or.inl ⟨by rfl, ?hn183⟩) hS ?rn183
            case hn183 => intro w' hSw; go_simp; (try with_reducible rfl)
            (try simp only [List.getElem_toArray]); (try simp only [List.getElem_cons_succ]); (try simp only [List.getElem_cons_zero]); (try simp only [Act.put]); (try simp only [List.setIfInBounds_toArray]); (try simp only [List.set_cons_succ]); (try simp only [List.set_cons_zero])
            refine wpAnyH_take (i := 13) (v := ?vn184) rfl (by kernel_rfl) (by kernel_rfl) (by kernel_rfl) (fun _ _ _ h => h) (Or.inl ⟨by rfl, ?hn184⟩) hS ?rn184
            case hn184 => intro w' hSw; go_simp; (try with_reducible rfl)
            (try simp only [List.getElem_toArray]); (try simp only [List.getElem_cons_succ]); (try simp only [List.getElem_cons_zero]); (try simp only [Act.put]); (try simp only [List.setIfInBounds_toArray]); (try simp only [List.set_cons_succ]); (try simp only [List.set_cons_zero])
            refine wpAnyH_done (by kernel_rfl) ?_ _
            clear hS
            go_wp2
            go_ret
            exact ⟨rfl, B⟩

/-! the row's step -/
set_option maxRecDepth 100000 in
theorem lifted (os : Os) (started : os.Started) (H : Type) (enc : TypeId × Value → H) :
    ReturnsInHanded {} Try.checked os 5 .any (Rows.fnJudgesSpec.pre6 enc Try.prog Try.f5 Rows.fnJudgesRow.domain false) (Rows.fnJudgesSpec.post enc Try.prog Try.f5 false true false false) := by
  refine returnsInHanded_of_change (C := Try.checked) own started (by kernel_rfl) Try.func5
    (ChangeSpec.witness6 (enc := enc) (C := Try.checked) false ⟨#[], #[.slice none 0 0], []⟩ 8 (by kernel_rfl) (by kernel_rfl) (by kernel_rfl) (by kernel_rfl)) ?_
  intro W base args ds gs before hval0 hW hcnd _
  have hval : ∀ (j : Nat) t v, Try.f5.params[j]? = some t → args[j]? = some v → Value.okWide Try.prog W .any base t v := hval0
  have hW' := hW
  obtain ⟨p, q, hA0, hV, rfl, hfz, hnd⟩ := hW
  have hA : DataW.TrodAll enc Try.prog W 0 (fun _ => true) true Try.f5.params.toList args.toList ds p := hA0
  rw [Try.params5] at hA hval
  obtain ⟨v0, vs0, d0, ds0, p0, q0, hargs, rfl, rfl, h0, r0⟩ := trodAll_cons hA
  obtain ⟨rfl, rfl, rfl⟩ := trodAll_nil r0
  obtain rfl : args = #[v0] := by cases args; simp_all
  obtain ⟨rfl, rfl⟩ := trodVars_none hV
  obtain ⟨a0, len0, cap0, rfl⟩ := okWide_slice Try.underlying22 (hval 0 22 v0 rfl rfl)
  have k0 := h0
  have lt0 : ∀ x ∈ p0, x.block < W.heap.size := by obtain ⟨m, hm⟩ := k0; exact DataW.trod_lt m _ _ _ hm
  obtain ⟨z0, w0⟩ : ∃ zs, IsRow .u8 W a0 len0 cap0 zs := by
    obtain ⟨fuel, hf⟩ := h0
    rcases open_ints Try.underlying22 Try.underlying5 (by kernel_rfl) hf with ⟨hcs, _⟩ | ⟨x, l, c, zs, hcs, _, hl, hm, hz, _, hcell, hwz⟩
    · simp [Value.cells] at hcs
      obtain ⟨rfl, rfl, rfl⟩ := hcs
      exact ⟨[], .inl ⟨rfl, rfl, rfl, rfl⟩⟩
    · simp [Value.cells] at hcs
      obtain ⟨rfl, rfl, rfl⟩ := hcs
      exact ⟨zs, .inr ⟨_, rfl, hl, hm, by simpa using hz, hcell, hwz⟩⟩
  clear hA0 hval0
  refine (walk a0 len0 cap0 z0 W w0).mono fun e W' ⟨he, bel⟩ => ?_
  subst he
  exact ⟨_, rfl, _, _, _, [], _, [], hW', trodAll_mk1 (shut_bool Try.underlying4 _), (trodAll_cons_mk (Below.trod laidOut (by kernel_rfl) (of_decide_eq_true (by kernel_rfl)) k0 bel lt0) trodAll_mk0), rfl, bel.frame _, fun h => by cases h⟩

theorem over : Rows.fnJudgesRow.holds Try.pinned (OpenSpec.ofChange Rows.fnJudgesSpec) :=
  OpenClaim.holds_of_wide 5 Try.f5 rfl rfl rfl rfl rfl rfl rfl ⟨rfl, rfl, rfl, rfl, rfl⟩ rfl rfl rfl rfl rfl (by kernel_rfl) Try.func5 (by kernel_rfl)
    (of_decide_eq_true (by kernel_rfl)) (by unfold Func.isWrapper; first | (rw [if_pos (by decide +kernel)]; kernel_rfl) | (rw [if_neg (by decide +kernel)]; exact ⟨rfl, rfl⟩))
    (fun os started H enc _ => lifted os started H enc)

end Go.Proofs.Ytadppilldijijab.fnJudges
namespace Go.Proofs.Ytadppilldijijab
theorem fnJudges_holds : Rows.FnJudgesSaid := fnJudges.over
#print axioms fnJudges_holds
end Go.Proofs.Ytadppilldijijab
