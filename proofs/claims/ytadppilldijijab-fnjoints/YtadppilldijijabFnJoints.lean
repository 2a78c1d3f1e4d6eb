/-
  FnJoints answers true whatever bytes it draws from: of what two tell alike the third one hears that; and where it hears two things, or cries out, one of the two that are told apart is the one who cheats.
-/
import Derived.Test.YtadppilldijijabDraw8
import Derived.Test.YtadppilldijijabLawJ
import Derived.Test.YtadppilldijijabJnZ
import Derived.Test.YtadppilldijijabLw
import Derived.Deep.RegionHeld3
import Derived.Deep.CutRange
import Derived.Deep.Cut
import Derived.Deep.RegionWith
import Derived.ShutString
import Derived.ChangeOld
import Derived.Below
namespace Go.Proofs.Ytadppilldijijab.fnJoints
open Go.ChangeShapes Go.WideShapes Go.ChangeAt Go.RowKit
open Go.ChangeMaps (open_string shut_string)
set_option linter.unusedVariables false

theorem own : ownKnob Try.prog.godebug = none := by kernel_rfl
theorem laidOut : laidOutB Try.prog = true := by kernel_rfl

theorem fieldNR_0 (x0 x1 x2 x3 x4 x5 x6 x7 x8 x9 y0 y1 y2 y3 y4 y5 y6 y7 : Value) (w : World) : (Instr.field 50 (.agg #[x0, x1, x2, x3, x4, x5, x6, x7, x8, x9, y0, y1, y2, y3, y4, y5, y6, y7]) 0).run Try.prog w = .ok x0 w := by kernel_rfl
theorem sendR_zero {x : MNet} {q fm ck tt a b : Int} (h : (sendR x q fm ck tt a b).xCode = 0) : netC x = 0 ∧ x.xQuarrel.xSome = false ∧ sendOk q fm ck tt a b := by
  by_cases k0 : netC x = 0
  · by_cases k1 : x.xQuarrel.xSome = true
    · rw [sendR_quarrel _ _ _ _ _ _ k0 k1] at h; cases h
    · by_cases k2 : sendOk q fm ck tt a b
      · exact ⟨k0, by simpa using k1, k2⟩
      · rw [sendR_out k0 k1 k2] at h; cases h
  · rw [sendR_fault _ _ _ _ _ _ k0] at h; exact absurd h k0
def at3 (z : MQuarrel) (k : Nat) : Int := if k = 0 then z.xFrom else if k = 1 then z.xCheck else z.xTo
def hit (P : MPairResult) (v : Int) : Int := if v = P.xFirst ∨ v = P.xSecond then 1 else 0
def hits (P : MPairResult) (z : MQuarrel) : Nat → Int
  | 0 => 0
  | k + 1 => hits P z k + hit P (at3 z k)
theorem hits_le (P : MPairResult) (z : MQuarrel) : ∀ k, 0 ≤ hits P z k ∧ hits P z k ≤ k
  | 0 => ⟨Int.le_refl _, Int.le_refl _⟩
  | k + 1 => by have := hits_le P z k; unfold hits hit; split <;> omega
theorem judged {z : MQuarrel} (h : (judgeR z).xCode = 0) : (judgeR z).xFirst < (judgeR z).xSecond ∧ (trustR z).xCode = 0 ∧ (trustR z).xValue ≠ (judgeR z).xFirst ∧ (trustR z).xValue ≠ (judgeR z).xSecond ∧ (0 ≤ (trustR z).xValue ∧ (trustR z).xValue < 4) ∧ hit (judgeR z) z.xFrom + hit (judgeR z) z.xCheck + hit (judgeR z) z.xTo = 2 := by
  obtain ⟨hs, h3⟩ := judgeR_some h
  rw [trustR_yes h]
  obtain ⟨e1, e2⟩ := judgeR_pair h
  unfold hit
  rw [e1, e2]
  obtain ⟨_, _, _, d1, d2, d3⟩ := h3
  have hA : qA z = z.xFrom ∨ qA z = z.xTo := by unfold qA; split <;> simp
  have hB : (qB z = z.xCheck) ∨ (qB z = z.xFrom ∧ qA z = z.xTo) := by
    unfold qB qA
    split
    · exact .inl rfl
    · rename_i k
      refine .inr ⟨rfl, if_neg (fun k' => k ⟨k'.1, .inr k'.2.2⟩)⟩
  unfold mn mx low
  generalize qA z = A at *
  generalize qB z = B at *
  dsimp only
  rcases hB with hB | ⟨hB, hB'⟩
  · rcases hA with hA | hA
    · subst hA hB; refine ⟨?_, rfl, ?_, ?_, ?_, ?_⟩ <;> (repeat' split) <;> omega
    · subst hA hB; refine ⟨?_, rfl, ?_, ?_, ?_, ?_⟩ <;> (repeat' split) <;> omega
  · subst hB hB'; refine ⟨?_, rfl, ?_, ?_, ?_, ?_⟩ <;> (repeat' split) <;> omega
theorem fieldNR_1 (x0 x1 x2 x3 x4 x5 x6 x7 x8 x9 y0 y1 y2 y3 y4 y5 y6 y7 : Value) (w : World) : (Instr.field 50 (.agg #[x0, x1, x2, x3, x4, x5, x6, x7, x8, x9, y0, y1, y2, y3, y4, y5, y6, y7]) 1).run Try.prog w = .ok x1 w := by kernel_rfl
theorem fieldNR_2 (x0 x1 x2 x3 x4 x5 x6 x7 x8 x9 y0 y1 y2 y3 y4 y5 y6 y7 : Value) (w : World) : (Instr.field 50 (.agg #[x0, x1, x2, x3, x4, x5, x6, x7, x8, x9, y0, y1, y2, y3, y4, y5, y6, y7]) 2).run Try.prog w = .ok (.agg #[x2, x3, x4, x5, x6, x7, x8, x9, y0, y1, y2, y3, y4, y5, y6, y7]) w := by kernel_rfl
theorem fieldN_5 (x2 x3 x4 x5 x6 x7 x8 x9 y0 y1 y2 y3 y4 y5 y6 y7 : Value) (w : World) : (Instr.field 46 (.agg #[x2, x3, x4, x5, x6, x7, x8, x9, y0, y1, y2, y3, y4, y5, y6, y7]) 5).run Try.prog w = .ok (.agg #[y0, y1, y2, y3, y4, y5, y6, y7]) w := by kernel_rfl
theorem run_eqQ (s : Bool) (f c t a b d e : Int) (w : World) : (binOp .eql 44 (.agg #[.bool s, .int .i64 f, .int .i64 c, .int .i64 t, .int .i64 a, .int .i64 b, .int .i64 d, .int .i64 e]) (.agg #[.bool s, .int .i64 f, .int .i64 c, .int .i64 t, .int .i64 a, .int .i64 b, .int .i64 d, .int .i64 e])).run Try.prog w = .ok (.bool true) w := by
  simp [go_sem, Try.underlying44]
set_option maxHeartbeats 16000000 in
set_option maxRecDepth 100000 in
theorem walk (a0 : Option Addr) (len0 cap0 : Nat) (z0 : List Int) (w : World) (w0 : IsRow .u8 w a0 len0 cap0 z0) :
    Calls Try.prog 4 #[.slice a0 len0 cap0] w fun e w' => e = .returned (.bool true) ∧ Below w.heap.size w w' := by
  obtain ⟨zs, rfl, hr, hw⟩ := w0.reads
  clear w0
  have hby := bytes_of hw
  clear hw
  by_cases hl : 1048576 < zs.length
  · go_enter Try.func4, Try.ntmps4
    go_wp2_with fail
    refine (lwBig_yes _ _ _ _ hl).mono ?_
    rintro e w' ⟨rfl, rfl⟩
    go_wp2
    go_ret
    exact ⟨rfl, Below.refl _ _⟩
  · have hl' : zs.length ≤ 1048576 := by omega
    have HR0 : Hid (Reads w .u8 (.slice a0 zs.length cap0) zs) := hr
    clear hr
    have fn0 := fieldNR_0
    have fi0 := field_0
    have fi1 := field_1
    go_enter Try.func4, Try.ntmps4
    go_wp2_with fail
    refine (lwBig_no _ _ _ _ hl').mono ?_
    rintro e w' ⟨rfl, rfl⟩
    go_wp2_with fail
    refine (spec_DrawSendJoint a0 cap0 zs w HR0.out hl' hby).mono ?_
    rintro e w1 ⟨p0, c0, p1, c1, p2, c2, x, q, fm, ck, tt, aa, bb, rfl, rN, hF, B⟩
    have HF : Hid (Fit x) := hF
    clear hF
    have HT : Hid ((sendR x q fm ck tt aa bb).xCode = 0 → _) := sendR_zero (x := x) (q := q) (fm := fm) (ck := ck) (tt := tt) (a := aa) (b := bb)
    have HTI : Hid (∀ _ : netC x = 0, ∀ _ : ¬ x.xQuarrel.xSome = true, ∀ _ : sendOk q fm ck tt aa bb, sendR x q fm ck tt aa bb = ⟨0, uT x q fm aa, sentN x q fm ck tt aa bb⟩) := fun h k l => sendR_in h k l
    have KR := fun W h => impl_SendJoint (.agg #[.slice p0 x.xTape.length c0, .slice p1 x.xUsed.length c1, .int .i64 x.xSent, .slice p2 x.xHeard.length c2, .int .i64 x.xCheat.xWho, .int .i64 x.xCheat.xAt, .int .i64 x.xCheat.xBy, .bool x.xCheat.xCry, .bool x.xQuarrel.xSome, .int .i64 x.xQuarrel.xFrom, .int .i64 x.xQuarrel.xCheck, .int .i64 x.xQuarrel.xTo, .int .i64 x.xQuarrel.xTold, .int .i64 x.xQuarrel.xHeard, .int .i64 x.xQuarrel.xOther, .int .i64 x.xQuarrel.xVowed]) x q fm ck tt aa bb W h HF.out
    have KRS := fun W h => spec_SendJoint (.agg #[.slice p0 x.xTape.length c0, .slice p1 x.xUsed.length c1, .int .i64 x.xSent, .slice p2 x.xHeard.length c2, .int .i64 x.xCheat.xWho, .int .i64 x.xCheat.xAt, .int .i64 x.xCheat.xBy, .bool x.xCheat.xCry, .bool x.xQuarrel.xSome, .int .i64 x.xQuarrel.xFrom, .int .i64 x.xQuarrel.xCheck, .int .i64 x.xQuarrel.xTo, .int .i64 x.xQuarrel.xTold, .int .i64 x.xQuarrel.xHeard, .int .i64 x.xQuarrel.xOther, .int .i64 x.xQuarrel.xVowed]) x q fm ck tt aa bb W h HF.out
    generalize hRR : sendR x q fm ck tt aa bb = R at *
    clear hRR
    have Zn := Blk.new w1 46 #[.slice none 0 0, .slice none 0 0, .int .i64 0, .slice none 0 0, .int .i64 0, .int .i64 0, .int .i64 0, .bool false, .bool false, .int .i64 0, .int .i64 0, .int .i64 0, .int .i64 0, .int .i64 0, .int .i64 0, .int .i64 0]
    go_wp2_with (first | (refine wpList_store_blk rfl 46 _ _ rfl w1.heap.size (#[.slice p0 x.xTape.length c0, .slice p1 x.xUsed.length c1, .int .i64 x.xSent, .slice p2 x.xHeard.length c2, .int .i64 x.xCheat.xWho, .int .i64 x.xCheat.xAt, .int .i64 x.xCheat.xBy, .bool x.xCheat.xCry, .bool x.xQuarrel.xSome, .int .i64 x.xQuarrel.xFrom, .int .i64 x.xQuarrel.xCheck, .int .i64 x.xQuarrel.xTo, .int .i64 x.xQuarrel.xTold, .int .i64 x.xQuarrel.xHeard, .int .i64 x.xQuarrel.xOther, .int .i64 x.xQuarrel.xVowed]) rfl rfl Zn rfl (by kernel_rfl) (by kernel_rfl) ?_; intro wx XN O2; have lg := Zn) | (refine wpList_load_blk rfl 46 _ rfl w1.heap.size rfl XN Try.underlying46 rfl (by kernel_rfl) ?_))
    have B2 : Below w.heap.size w wx := (B.alloc B.size _).trans (O2.toBelow (B.alloc B.size _).size (by have := B.size; simp; omega))
    have rN2 := rN.below (((Below.refl w1.heap.size w1).alloc (Nat.le_refl _) _).trans (O2.toBelow (by simp) (by simp)))
    clear rN B O2 Zn
    have rN := rN2
    have B := B2
    clear rN2 B2
    generalize w1.heap.size = b3 at *
    refine Calls.at (F := fun V => Blk V b3 46 #[.slice p0 x.xTape.length c0, .slice p1 x.xUsed.length c1, .int .i64 x.xSent, .slice p2 x.xHeard.length c2, .int .i64 x.xCheat.xWho, .int .i64 x.xCheat.xAt, .int .i64 x.xCheat.xBy, .bool x.xCheat.xCry, .bool x.xQuarrel.xSome, .int .i64 x.xQuarrel.xFrom, .int .i64 x.xQuarrel.xCheck, .int .i64 x.xQuarrel.xTo, .int .i64 x.xQuarrel.xTold, .int .i64 x.xQuarrel.xHeard, .int .i64 x.xQuarrel.xOther, .int .i64 x.xQuarrel.xVowed] ∧ RdNet V (.agg #[.slice p0 x.xTape.length c0, .slice p1 x.xUsed.length c1, .int .i64 x.xSent, .slice p2 x.xHeard.length c2, .int .i64 x.xCheat.xWho, .int .i64 x.xCheat.xAt, .int .i64 x.xCheat.xBy, .bool x.xCheat.xCry, .bool x.xQuarrel.xSome, .int .i64 x.xQuarrel.xFrom, .int .i64 x.xQuarrel.xCheck, .int .i64 x.xQuarrel.xTo, .int .i64 x.xQuarrel.xTold, .int .i64 x.xQuarrel.xHeard, .int .i64 x.xQuarrel.xOther, .int .i64 x.xQuarrel.xVowed]) x ∧ Below w.heap.size w V) ⟨XN, rN, B⟩ ?_
    clear XN rN B
    rintro V1 ⟨XN, rN, B⟩
    refine (KR _ rN).mono ?_
    rintro e w2 ⟨u6, bb0, bb1, bb2, rfl, ON, -, -, -, k2⟩
    obtain ⟨q0, d0, q1, d1, q2, d2, rfl, m0, m1, m2, -⟩ := ON
    have rV : ReadsM w2 (.slice q2 R.xNet.xHeard.length d2) R.xNet.xHeard := m2.reads
    clear m0 m1 m2 KR
    replace XN := XN.keep k2
    replace rN := rN.below k2
    replace B := B.trans (k2.mono B.size)
    clear k2
    have Zr := Blk.new w2 50 #[.int .i64 0, .int .i64 0, .slice none 0 0, .slice none 0 0, .int .i64 0, .slice none 0 0, .int .i64 0, .int .i64 0, .int .i64 0, .bool false, .bool false, .int .i64 0, .int .i64 0, .int .i64 0, .int .i64 0, .int .i64 0, .int .i64 0, .int .i64 0]
    go_upto_region 5 with (refine wpList_store_blk rfl 50 _ _ rfl w2.heap.size (#[.int .i64 R.xCode, .int .i64 R.xValue, .slice q0 R.xNet.xTape.length d0, .slice q1 R.xNet.xUsed.length d1, .int .i64 R.xNet.xSent, .slice q2 R.xNet.xHeard.length d2, .int .i64 R.xNet.xCheat.xWho, .int .i64 R.xNet.xCheat.xAt, .int .i64 R.xNet.xCheat.xBy, .bool R.xNet.xCheat.xCry, .bool R.xNet.xQuarrel.xSome, .int .i64 R.xNet.xQuarrel.xFrom, .int .i64 R.xNet.xQuarrel.xCheck, .int .i64 R.xNet.xQuarrel.xTo, .int .i64 R.xNet.xQuarrel.xTold, .int .i64 R.xNet.xQuarrel.xHeard, .int .i64 R.xNet.xQuarrel.xOther, .int .i64 R.xNet.xQuarrel.xVowed]) rfl rfl Zr rfl (by kernel_rfl) (by kernel_rfl) ?_; intro wy XR O6)
    have K6 : Below w2.heap.size w2 wy := ((Below.refl _ _).alloc (Nat.le_refl _) _).trans (O6.toBelow (by simp) (by simp))
    replace XN := XN.keep K6
    replace rN := rN.below K6
    replace B := B.trans (K6.mono B.size)
    replace rV := rV.below K6
    clear K6 O6 Zr
    generalize w2.heap.size = b10 at *
    by_cases hf : R.xCode = 0
    · as_aux_lemma =>
        obtain ⟨z0, zq, zk⟩ := HT.out hf
        have hRe := HTI.out z0 (by rw [zq]; simp) zk
        subst hRe
        obtain ⟨hq, h3, ha, hb'⟩ := zk
        have h3c := h3
        obtain ⟨zt, zu, zl, zc⟩ := netC_zero z0
        have hsn := ((listsB_iff x).1 zl).2.2
        obtain ⟨hd1, hd2, hd3, -⟩ := h3
        obtain ⟨t, rfl⟩ := Int.eq_ofNat_of_zero_le hd3.1
        have ht4 : t < 4 := by omega
        have HH4 : Hid (x.xHeard.length = 4) := zu.2
        have HQV : Hid (aa = bb → (quarN x q fm ck t aa bb).xSome = false → uT x q fm aa = aa) := fun e h => by subst e; exact quiet_value h3c zq h
        have HQW : Hid (aa = bb → (quarN x q fm ck t aa bb).xSome = true → (judgeR (quarN x q fm ck t aa bb)).xCode = 0 ∧ (x.xCheat.xWho = (judgeR (quarN x q fm ck t aa bb)).xFirst ∨ x.xCheat.xWho = (judgeR (quarN x q fm ck t aa bb)).xSecond) ∧ 0 ≤ x.xCheat.xWho) := fun e h => by subst e; exact quarrel_who h3c zq h
        have HSL : Hid ((sentN x q fm ck t aa bb).xHeard = x.xHeard.set t (x.xHeard.getD t [] ++ [uT x q fm aa, vT x q ck bb])) := by show x.xHeard.set (t : Int).toNat _ = _; rw [Int.toNat_natCast]
        have HSN : Hid ((sentN x q fm ck t aa bb).xHeard.length = 4) := by show _ = _; rw [HSL.out, List.length_set]; exact HH4.out
        have rV2 : ReadsM wy (.slice q2 (x.xHeard.set t (x.xHeard.getD t [] ++ [uT x q fm aa, vT x q ck bb])).length d2) (x.xHeard.set t (x.xHeard.getD t [] ++ [uT x q fm aa, vT x q ck bb])) := by
          have h := rV
          dsimp only at h
          rw [HSL.out] at h
          exact h
        have XN2 : Blk wy b3 46 #[.slice p0 x.xTape.length c0, .slice p1 x.xUsed.length c1, .int .i64 x.xSent, .slice p2 4 c2, .int .i64 x.xCheat.xWho, .int .i64 x.xCheat.xAt, .int .i64 x.xCheat.xBy, .bool x.xCheat.xCry, .bool x.xQuarrel.xSome, .int .i64 x.xQuarrel.xFrom, .int .i64 x.xQuarrel.xCheck, .int .i64 x.xQuarrel.xTo, .int .i64 x.xQuarrel.xTold, .int .i64 x.xQuarrel.xHeard, .int .i64 x.xQuarrel.xOther, .int .i64 x.xQuarrel.xVowed] := by have h := XN; rw [HH4.out] at h; exact h
        have XR2 : Blk wy b10 50 #[.int .i64 0, .int .i64 (uT x q fm aa), .slice q0 x.xTape.length d0, .slice q1 x.xUsed.length d1, .int .i64 (x.xSent + 2), .slice q2 4 d2, .int .i64 x.xCheat.xWho, .int .i64 x.xCheat.xAt, .int .i64 x.xCheat.xBy, .bool x.xCheat.xCry, .bool (quarN x q fm ck t aa bb).xSome, .int .i64 (quarN x q fm ck t aa bb).xFrom, .int .i64 (quarN x q fm ck t aa bb).xCheck, .int .i64 (quarN x q fm ck t aa bb).xTo, .int .i64 (quarN x q fm ck t aa bb).xTold, .int .i64 (quarN x q fm ck t aa bb).xHeard, .int .i64 (quarN x q fm ck t aa bb).xOther, .int .i64 (quarN x q fm ck t aa bb).xVowed] := by
          have h := XR
          dsimp only at h
          rw [HSN.out] at h
          exact h
        dsimp only [sentN] at KRS
        skip
        have rN2 := rN
        obtain ⟨e0, e1, e2, e3, e4, e5, hv, -, -, rH⟩ := rN2
        simp only [Value.agg.injEq, Array.mk.injEq, List.cons.injEq, Value.slice.injEq] at hv
        obtain ⟨⟨rfl, -, rfl⟩, ⟨rfl, -, rfl⟩, -, ⟨rfl, -, rfl⟩, -⟩ := hv
        obtain ⟨gh, oh, ph, dh, rfl, lth, cu, -⟩ := rH.lane t (by rw [HH4.out]; exact ht4)
        obtain ⟨gv, ov, pv, dv, rfl, ltv, cv, -⟩ := rV2.lane t (by rw [List.length_set, HH4.out]; exact ht4)
        have HG2 : Hid (((x.xHeard.set t (x.xHeard.getD t [] ++ [uT x q fm aa, vT x q ck bb])).getD t []).length = (x.xHeard.getD t []).length + 2) := by
          show _ = _
          rw [List.getD_eq_getElem?_getD, List.getElem?_set_self (by rw [HH4.out]; exact ht4)]
          simp
        rw [HG2.out] at cv
        have hnb : (x.xHeard.getD t []).length + 2 ≤ 16777218 := by
          have := HF.out.r t
          omega
        generalize (x.xHeard.getD t []).length = nH at *
        generalize hzz : quarN x q fm ck t aa bb = Z at *
        generalize huu : uT x q fm aa = uu at *
        have XN3 := XN
        clear rH rV2 XN XR rV HT HTI hf zq z0 zt zu zl zc HSL HSN HG2 hzz huu h3c hd1 hd2 hq ha
        clear hb'
        have hcz : ((0 : Int) != 0) = false := by simp
        have hti : (t : Int) < 4 := by omega
        have ht0 : decide ((t : Int) < 0) = false := by simp
        have Na := XN2.at.1
        have Nl := XN2.lt
        have Ra := XR2.at.1
        have Rl := XR2.lt
        go_wp2_with fail
        clear Na Nl Ra Rl
        have ew : IntKind.i64.wrap (x.xSent + 2) = x.xSent + 2 := by rw [IntKind.wrap_i64]; omega
        have es : (x.xSent + 2 != x.xSent + 2) = false := by simp
        have ew2 : IntKind.i64.wrap ((nH : Int) + 2) = (nH : Int) + 2 := by rw [IntKind.wrap_i64]; omega
        have en2 : (((nH + 2 : Nat) : Int) != (nH : Int) + 2) = false := by simp
        refine wp_region_held (S := fun V => (∀ o, V.cell? ⟨b3, o, none⟩ = (#[.slice p0 x.xTape.length c0, .slice p1 x.xUsed.length c1, .int .i64 x.xSent, .slice (some ⟨gh, oh, none⟩) 4 c2, .int .i64 x.xCheat.xWho, .int .i64 x.xCheat.xAt, .int .i64 x.xCheat.xBy, .bool x.xCheat.xCry, .bool x.xQuarrel.xSome, .int .i64 x.xQuarrel.xFrom, .int .i64 x.xQuarrel.xCheck, .int .i64 x.xQuarrel.xTo, .int .i64 x.xQuarrel.xTold, .int .i64 x.xQuarrel.xHeard, .int .i64 x.xQuarrel.xOther, .int .i64 x.xQuarrel.xVowed] : Array Value)[o]?) ∧ (∀ o, V.cell? ⟨b10, o, none⟩ = (#[.int .i64 0, .int .i64 uu, .slice q0 x.xTape.length d0, .slice q1 x.xUsed.length d1, .int .i64 (x.xSent + 2), .slice (some ⟨gv, ov, none⟩) 4 d2, .int .i64 x.xCheat.xWho, .int .i64 x.xCheat.xAt, .int .i64 x.xCheat.xBy, .bool x.xCheat.xCry, .bool Z.xSome, .int .i64 Z.xFrom, .int .i64 Z.xCheck, .int .i64 Z.xTo, .int .i64 Z.xTold, .int .i64 Z.xHeard, .int .i64 Z.xOther, .int .i64 Z.xVowed] : Array Value)[o]?) ∧ V.cell? ⟨gh, oh + t, none⟩ = some (.slice ph nH dh) ∧ V.cell? ⟨gv, ov + t, none⟩ = some (.slice pv (nH + 2) dv)) (by kernel_rfl) ?_
        try (change wpAnyH _ _ _ _ _ _ _ _ (World.drew _))
        replace XN2 := XN2.drew
        replace XR2 := XR2.drew
        replace XN3 := XN3.drew
        replace rN := rN.below (Below.refl _ _).drew
        replace B := B.drew
        have hS : (∀ o, wy.drew.cell? ⟨b3, o, none⟩ = (#[.slice p0 x.xTape.length c0, .slice p1 x.xUsed.length c1, .int .i64 x.xSent, .slice (some ⟨gh, oh, none⟩) 4 c2, .int .i64 x.xCheat.xWho, .int .i64 x.xCheat.xAt, .int .i64 x.xCheat.xBy, .bool x.xCheat.xCry, .bool x.xQuarrel.xSome, .int .i64 x.xQuarrel.xFrom, .int .i64 x.xQuarrel.xCheck, .int .i64 x.xQuarrel.xTo, .int .i64 x.xQuarrel.xTold, .int .i64 x.xQuarrel.xHeard, .int .i64 x.xQuarrel.xOther, .int .i64 x.xQuarrel.xVowed] : Array Value)[o]?) ∧ (∀ o, wy.drew.cell? ⟨b10, o, none⟩ = (#[.int .i64 0, .int .i64 uu, .slice q0 x.xTape.length d0, .slice q1 x.xUsed.length d1, .int .i64 (x.xSent + 2), .slice (some ⟨gv, ov, none⟩) 4 d2, .int .i64 x.xCheat.xWho, .int .i64 x.xCheat.xAt, .int .i64 x.xCheat.xBy, .bool x.xCheat.xCry, .bool Z.xSome, .int .i64 Z.xFrom, .int .i64 Z.xCheck, .int .i64 Z.xTo, .int .i64 Z.xTold, .int .i64 Z.xHeard, .int .i64 Z.xOther, .int .i64 Z.xVowed] : Array Value)[o]?) ∧ wy.drew.cell? ⟨gh, oh + t, none⟩ = some (.slice ph nH dh) ∧ wy.drew.cell? ⟨gv, ov + t, none⟩ = some (.slice pv (nH + 2) dv) := ⟨XN2.at.1, XR2.at.1, cu, cv⟩
        refine wpAnyH_take (i := 0) (v := ?vn222) rfl (by kernel_rfl) (by kernel_rfl) (by kernel_rfl) (fun _ _ _ h => h) (Or.inl ⟨by rfl, ?hn222⟩) hS ?rn222
        case hn222 => intro w' hSw; go_simp; (try with_reducible rfl)
        (try simp only [List.getElem_toArray]); (try simp only [List.getElem_cons_succ]); (try simp only [List.getElem_cons_zero]); (try simp only [Act.put]); (try simp only [List.setIfInBounds_toArray]); (try simp only [List.set_cons_succ]); (try simp only [List.set_cons_zero])
        refine wpAnyH_take (i := 1) (v := ?vn223) rfl (by kernel_rfl) (by kernel_rfl) (by kernel_rfl) (fun _ _ _ h => h) (Or.inl ⟨by rfl, ?hn223⟩) hS ?rn223
        case hn223 => intro w' hSw; go_simp; (try with_reducible rfl)
        (try simp only [List.getElem_toArray]); (try simp only [List.getElem_cons_succ]); (try simp only [List.getElem_cons_zero]); (try simp only [Act.put]); (try simp only [List.setIfInBounds_toArray]); (try simp only [List.set_cons_succ]); (try simp only [List.set_cons_zero])
        refine wpAnyH_take (i := 2) (v := ?vn224) rfl (by kernel_rfl) (by kernel_rfl) (by kernel_rfl) (fun _ _ _ h => h) (Or.inl ⟨by rfl, ?hn224⟩) hS ?rn224
        case hn224 => intro w' hSw; go_simp; (try with_reducible rfl)
        (try simp only [List.getElem_toArray]); (try simp only [List.getElem_cons_succ]); (try simp only [List.getElem_cons_zero]); (try simp only [Act.put]); (try simp only [List.setIfInBounds_toArray]); (try simp only [List.set_cons_succ]); (try simp only [List.set_cons_zero])
        refine wpAnyH_take (i := 3) (v := ?vn225) rfl (by kernel_rfl) (by kernel_rfl) (by kernel_rfl) (fun _ _ _ h => h) (Or.inl ⟨by rfl, ?hn225⟩) hS ?rn225
        case hn225 => intro w' hSw; go_simp; (try with_reducible rfl)
        (try simp only [List.getElem_toArray]); (try simp only [List.getElem_cons_succ]); (try simp only [List.getElem_cons_zero]); (try simp only [Act.put]); (try simp only [List.setIfInBounds_toArray]); (try simp only [List.set_cons_succ]); (try simp only [List.set_cons_zero])
        refine wpAnyH_take (i := 4) (v := ?vn226) rfl (by kernel_rfl) (by kernel_rfl) (by kernel_rfl) (fun _ _ _ h => h) (Or.inl ⟨by rfl, ?hn226⟩) hS ?rn226
        case hn226 => intro w' hSw; go_simp; (try with_reducible rfl)
        (try simp only [List.getElem_toArray]); (try simp only [List.getElem_cons_succ]); (try simp only [List.getElem_cons_zero]); (try simp only [Act.put]); (try simp only [List.setIfInBounds_toArray]); (try simp only [List.set_cons_succ]); (try simp only [List.set_cons_zero])
        refine wpAnyH_take (i := 5) (v := ?vn227) rfl (by kernel_rfl) (by kernel_rfl) (by kernel_rfl) (fun _ _ _ h => h) (Or.inl ⟨by rfl, ?hn227⟩) hS ?rn227
        case hn227 => intro w' hSw; go_simp; (try with_reducible rfl)
        (try simp only [List.getElem_toArray]); (try simp only [List.getElem_cons_succ]); (try simp only [List.getElem_cons_zero]); (try simp only [Act.put]); (try simp only [List.setIfInBounds_toArray]); (try simp only [List.set_cons_succ]); (try simp only [List.set_cons_zero])
        refine wpAnyH_take (i := 6) (v := ?vn228) rfl (by kernel_rfl) (by kernel_rfl) (by kernel_rfl) (fun _ _ _ h => h) (Or.inl ⟨by rfl, ?hn228⟩) hS ?rn228
        case hn228 => intro w' hSw; go_simp; (try with_reducible rfl)
        (try simp only [List.getElem_toArray]); (try simp only [List.getElem_cons_succ]); (try simp only [List.getElem_cons_zero]); (try simp only [Act.put]); (try simp only [List.setIfInBounds_toArray]); (try simp only [List.set_cons_succ]); (try simp only [List.set_cons_zero])
        refine wpAnyH_take (i := 7) (v := ?vn229) rfl (by kernel_rfl) (by kernel_rfl) (by kernel_rfl) (fun _ _ _ h => h) (Or.inl ⟨by rfl, ?hn229⟩) hS ?rn229
        case hn229 => intro w' hSw; go_simp; (try with_reducible rfl)
        (try simp only [List.getElem_toArray]); (try simp only [List.getElem_cons_succ]); (try simp only [List.getElem_cons_zero]); (try simp only [Act.put]); (try simp only [List.setIfInBounds_toArray]); (try simp only [List.set_cons_succ]); (try simp only [List.set_cons_zero])
        refine wpAnyH_take (i := 8) (v := ?vn230) rfl (by kernel_rfl) (by kernel_rfl) (by kernel_rfl) (fun _ _ _ h => h) (Or.inl ⟨by rfl, ?hn230⟩) hS ?rn230
        case hn230 => intro w' hSw; go_simp; (try with_reducible rfl)
        (try simp only [List.getElem_toArray]); (try simp only [List.getElem_cons_succ]); (try simp only [List.getElem_cons_zero]); (try simp only [Act.put]); (try simp only [List.setIfInBounds_toArray]); (try simp only [List.set_cons_succ]); (try simp only [List.set_cons_zero])
        refine wpAnyH_take (i := 9) (v := ?vn231) rfl (by kernel_rfl) (by kernel_rfl) (by kernel_rfl) (fun _ _ _ h => h) (Or.inl ⟨by rfl, ?hn231⟩) hS ?rn231
        case hn231 => intro w' hSw; go_simp; (try with_reducible rfl)
        (try simp only [List.getElem_toArray]); (try simp only [List.getElem_cons_succ]); (try simp only [List.getElem_cons_zero]); (try simp only [Act.put]); (try simp only [List.setIfInBounds_toArray]); (try simp only [List.set_cons_succ]); (try simp only [List.set_cons_zero])
        refine wpAnyH_take (i := 10) (v := ?vn232) rfl (by kernel_rfl) (by kernel_rfl) (by kernel_rfl) (fun _ _ _ h => h) (Or.inl ⟨by rfl, ?hn232⟩) hS ?rn232
        case hn232 => intro w' hSw; go_simp; (try with_reducible rfl)
        (try simp only [List.getElem_toArray]); (try simp only [List.getElem_cons_succ]); (try simp only [List.getElem_cons_zero]); (try simp only [Act.put]); (try simp only [List.setIfInBounds_toArray]); (try simp only [List.set_cons_succ]); (try simp only [List.set_cons_zero])
        refine wpAnyH_take (i := 11) (v := ?vn233) rfl (by kernel_rfl) (by kernel_rfl) (by kernel_rfl) (fun _ _ _ h => h) (Or.inl ⟨by rfl, ?hn233⟩) hS ?rn233
        case hn233 => intro w' hSw; go_simp; (try with_reducible rfl)
        (try simp only [List.getElem_toArray]); (try simp only [List.getElem_cons_succ]); (try simp only [List.getElem_cons_zero]); (try simp only [Act.put]); (try simp only [List.setIfInBounds_toArray]); (try simp only [List.set_cons_succ]); (try simp only [List.set_cons_zero])
        refine wpAnyH_take (i := 12) (v := ?vn234) rfl (by kernel_rfl) (by kernel_rfl) (by kernel_rfl) (fun _ _ _ h => h) (Or.inl ⟨by rfl, ?hn234⟩) hS ?rn234
        case hn234 => intro w' hSw; go_simp; (try with_reducible rfl)
        (try simp only [List.getElem_toArray]); (try simp only [List.getElem_cons_succ]); (try simp only [List.getElem_cons_zero]); (try simp only [Act.put]); (try simp only [List.setIfInBounds_toArray]); (try simp only [List.set_cons_succ]); (try simp only [List.set_cons_zero])
        refine wpAnyH_take (i := 13) (v := ?vn235) rfl (by kernel_rfl) (by kernel_rfl) (by kernel_rfl) (fun _ _ _ h => h) (Or.inl ⟨by rfl, ?hn235⟩) hS ?rn235
        case hn235 => intro w' hSw; go_simp; (try with_reducible rfl)
        (try simp only [List.getElem_toArray]); (try simp only [List.getElem_cons_succ]); (try simp only [List.getElem_cons_zero]); (try simp only [Act.put]); (try simp only [List.setIfInBounds_toArray]); (try simp only [List.set_cons_succ]); (try simp only [List.set_cons_zero])
        refine wpAnyH_take (i := 14) (v := ?vn236) rfl (by kernel_rfl) (by kernel_rfl) (by kernel_rfl) (fun _ _ _ h => h) (Or.inl ⟨by rfl, ?hn236⟩) hS ?rn236
        case hn236 => intro w' hSw; go_simp; (try with_reducible rfl)
        (try simp only [List.getElem_toArray]); (try simp only [List.getElem_cons_succ]); (try simp only [List.getElem_cons_zero]); (try simp only [Act.put]); (try simp only [List.setIfInBounds_toArray]); (try simp only [List.set_cons_succ]); (try simp only [List.set_cons_zero])
        refine wpAnyH_take (i := 15) (v := ?vn237) rfl (by kernel_rfl) (by kernel_rfl) (by kernel_rfl) (fun _ _ _ h => h) (Or.inl ⟨by rfl, ?hn237⟩) hS ?rn237
        case hn237 => intro w' hSw; go_simp; (try with_reducible rfl)
        (try simp only [List.getElem_toArray]); (try simp only [List.getElem_cons_succ]); (try simp only [List.getElem_cons_zero]); (try simp only [Act.put]); (try simp only [List.setIfInBounds_toArray]); (try simp only [List.set_cons_succ]); (try simp only [List.set_cons_zero])
        refine wpAnyH_take (i := 16) (v := ?vn238) rfl (by kernel_rfl) (by kernel_rfl) (by kernel_rfl) (fun _ _ _ h => h) (Or.inl ⟨by rfl, ?hn238⟩) hS ?rn238
        case hn238 => intro w' hSw; go_simp; (try with_reducible rfl)
        (try simp only [List.getElem_toArray]); (try simp only [List.getElem_cons_succ]); (try simp only [List.getElem_cons_zero]); (try simp only [Act.put]); (try simp only [List.setIfInBounds_toArray]); (try simp only [List.set_cons_succ]); (try simp only [List.set_cons_zero])
        refine wpAnyH_take (i := 17) (v := ?vn239) rfl (by kernel_rfl) (by kernel_rfl) (by kernel_rfl) (fun _ _ _ h => h) (Or.inl ⟨by rfl, ?hn239⟩) hS ?rn239
        case hn239 => intro w' hSw; go_simp; (try with_reducible rfl)
        (try simp only [List.getElem_toArray]); (try simp only [List.getElem_cons_succ]); (try simp only [List.getElem_cons_zero]); (try simp only [Act.put]); (try simp only [List.setIfInBounds_toArray]); (try simp only [List.set_cons_succ]); (try simp only [List.set_cons_zero])
        refine wpAnyH_take (i := 18) (v := ?vn240) rfl (by kernel_rfl) (by kernel_rfl) (by kernel_rfl) (fun _ _ _ h => h) (Or.inl ⟨by rfl, ?hn240⟩) hS ?rn240
        case hn240 => intro w' hSw; go_simp; (try with_reducible rfl)
        (try simp only [List.getElem_toArray]); (try simp only [List.getElem_cons_succ]); (try simp only [List.getElem_cons_zero]); (try simp only [Act.put]); (try simp only [List.setIfInBounds_toArray]); (try simp only [List.set_cons_succ]); (try simp only [List.set_cons_zero])
        refine wpAnyH_take (i := 19) (v := ?vn241) rfl (by kernel_rfl) (by kernel_rfl) (by kernel_rfl) (fun _ _ _ h => h) (Or.inl ⟨by rfl, ?hn241⟩) hS ?rn241
        case hn241 => intro w' hSw; go_simp; (try with_reducible rfl)
        (try simp only [List.getElem_toArray]); (try simp only [List.getElem_cons_succ]); (try simp only [List.getElem_cons_zero]); (try simp only [Act.put]); (try simp only [List.setIfInBounds_toArray]); (try simp only [List.set_cons_succ]); (try simp only [List.set_cons_zero])
        refine wpAnyH_take (i := 20) (v := ?vn242) rfl (by kernel_rfl) (by kernel_rfl) (by kernel_rfl) (fun _ _ _ h => h) (Or.inl ⟨by rfl, ?hn242⟩) hS ?rn242
        case hn242 => intro w' hSw; go_simp; (try with_reducible rfl)
        (try simp only [List.getElem_toArray]); (try simp only [List.getElem_cons_succ]); (try simp only [List.getElem_cons_zero]); (try simp only [Act.put]); (try simp only [List.setIfInBounds_toArray]); (try simp only [List.set_cons_succ]); (try simp only [List.set_cons_zero])
        refine wpAnyH_take (i := 21) (v := ?vn243) rfl (by kernel_rfl) (by kernel_rfl) (by kernel_rfl) (fun _ _ _ h => h) (Or.inl ⟨by rfl, ?hn243⟩) hS ?rn243
        case hn243 => intro w' hSw; go_simp; (try with_reducible rfl)
        (try simp only [List.getElem_toArray]); (try simp only [List.getElem_cons_succ]); (try simp only [List.getElem_cons_zero]); (try simp only [Act.put]); (try simp only [List.setIfInBounds_toArray]); (try simp only [List.set_cons_succ]); (try simp only [List.set_cons_zero])
        refine wpAnyH_take (i := 22) (v := ?vn244) rfl (by kernel_rfl) (by kernel_rfl) (by kernel_rfl) (fun _ _ _ h => h) (Or.inl ⟨by rfl, ?hn244⟩) hS ?rn244
        case hn244 => intro w' hSw; go_simp; (try with_reducible rfl)
        (try simp only [List.getElem_toArray]); (try simp only [List.getElem_cons_succ]); (try simp only [List.getElem_cons_zero]); (try simp only [Act.put]); (try simp only [List.setIfInBounds_toArray]); (try simp only [List.set_cons_succ]); (try simp only [List.set_cons_zero])
        refine wpAnyH_take (i := 23) (v := ?vn245) rfl (by kernel_rfl) (by kernel_rfl) (by kernel_rfl) (fun _ _ _ h => h) (Or.inl ⟨by rfl, ?hn245⟩) hS ?rn245
        case hn245 => intro w' hSw; go_simp; (try with_reducible rfl)
        (try simp only [List.getElem_toArray]); (try simp only [List.getElem_cons_succ]); (try simp only [List.getElem_cons_zero]); (try simp only [Act.put]); (try simp only [List.setIfInBounds_toArray]); (try simp only [List.set_cons_succ]); (try simp only [List.set_cons_zero])
        refine wpAnyH_take (i := 24) (v := ?vn246) rfl (by kernel_rfl) (by kernel_rfl) (by kernel_rfl) (fun _ _ _ h => h) (Or.inl ⟨by rfl, ?hn246⟩) hS ?rn246
        case hn246 => intro w' hSw; go_simp; (try with_reducible rfl)
        (try simp only [List.getElem_toArray]); (try simp only [List.getElem_cons_succ]); (try simp only [List.getElem_cons_zero]); (try simp only [Act.put]); (try simp only [List.setIfInBounds_toArray]); (try simp only [List.set_cons_succ]); (try simp only [List.set_cons_zero])
        refine wpAnyH_take (i := 25) (v := ?vn247) rfl (by kernel_rfl) (by kernel_rfl) (by kernel_rfl) (fun _ _ _ h => h) (Or.inl ⟨by rfl, ?hn247⟩) hS ?rn247
        case hn247 => intro w' hSw; go_simp; (try with_reducible rfl)
        (try simp only [List.getElem_toArray]); (try simp only [List.getElem_cons_succ]); (try simp only [List.getElem_cons_zero]); (try simp only [Act.put]); (try simp only [List.setIfInBounds_toArray]); (try simp only [List.set_cons_succ]); (try simp only [List.set_cons_zero])
        refine wpAnyH_take (i := 26) (v := ?vn248) rfl (by kernel_rfl) (by kernel_rfl) (by kernel_rfl) (fun _ _ _ h => h) (Or.inl ⟨by rfl, ?hn248⟩) hS ?rn248
        case hn248 => intro w' hSw; go_simp; (try with_reducible rfl)
        (try simp only [List.getElem_toArray]); (try simp only [List.getElem_cons_succ]); (try simp only [List.getElem_cons_zero]); (try simp only [Act.put]); (try simp only [List.setIfInBounds_toArray]); (try simp only [List.set_cons_succ]); (try simp only [List.set_cons_zero])
        refine wpAnyH_take (i := 27) (v := ?vn249) rfl (by kernel_rfl) (by kernel_rfl) (by kernel_rfl) (fun _ _ _ h => h) (Or.inl ⟨by rfl, ?hn249⟩) hS ?rn249
        case hn249 => intro w' hSw; go_simp; (try with_reducible rfl)
        (try simp only [List.getElem_toArray]); (try simp only [List.getElem_cons_succ]); (try simp only [List.getElem_cons_zero]); (try simp only [Act.put]); (try simp only [List.setIfInBounds_toArray]); (try simp only [List.set_cons_succ]); (try simp only [List.set_cons_zero])
        refine wpAnyH_take (i := 28) (v := ?vn250) rfl (by kernel_rfl) (by kernel_rfl) (by kernel_rfl) (fun _ _ _ h => h) (Or.inl ⟨by rfl, ?hn250⟩) hS ?rn250
        case hn250 => intro w' hSw; go_simp; (try with_reducible rfl)
        (try simp only [List.getElem_toArray]); (try simp only [List.getElem_cons_succ]); (try simp only [List.getElem_cons_zero]); (try simp only [Act.put]); (try simp only [List.setIfInBounds_toArray]); (try simp only [List.set_cons_succ]); (try simp only [List.set_cons_zero])
        refine wpAnyH_take (i := 29) (v := ?vn251) rfl (by kernel_rfl) (by kernel_rfl) (by kernel_rfl) (fun _ _ _ h => h) (Or.inl ⟨by rfl, ?hn251⟩) hS ?rn251
        case hn251 => intro w' hSw; go_simp; (try with_reducible rfl)
        (try simp only [List.getElem_toArray]); (try simp only [List.getElem_cons_succ]); (try simp only [List.getElem_cons_zero]); (try simp only [Act.put]); (try simp only [List.setIfInBounds_toArray]); (try simp only [List.set_cons_succ]); (try simp only [List.set_cons_zero])
        refine wpAnyH_take (i := 30) (v := ?vn252) rfl (by kernel_rfl) (by kernel_rfl) (by kernel_rfl) (fun _ _ _ h => h) (Or.inl ⟨by rfl, ?hn252⟩) hS ?rn252
        case hn252 => intro w' hSw; go_simp; (try with_reducible rfl)
        (try simp only [List.getElem_toArray]); (try simp only [List.getElem_cons_succ]); (try simp only [List.getElem_cons_zero]); (try simp only [Act.put]); (try simp only [List.setIfInBounds_toArray]); (try simp only [List.set_cons_succ]); (try simp only [List.set_cons_zero])
        refine wpAnyH_done (by kernel_rfl) ?_ _
        clear hS
        clear ew es ew2 en2 cu cv lth ltv hnb ht0 hti
        by_cases hab : aa = bb
        · have eab : (aa != bb) = false := by simpa using hab
          have KP := fun W => impl_JudgeQuarrel (.agg #[.bool Z.xSome, .int .i64 Z.xFrom, .int .i64 Z.xCheck, .int .i64 Z.xTo, .int .i64 Z.xTold, .int .i64 Z.xHeard, .int .i64 Z.xOther, .int .i64 Z.xVowed]) Z W rfl
          have KT := fun W => impl_TrustedOf (.agg #[.bool Z.xSome, .int .i64 Z.xFrom, .int .i64 Z.xCheck, .int .i64 Z.xTo, .int .i64 Z.xTold, .int .i64 Z.xHeard, .int .i64 Z.xOther, .int .i64 Z.xVowed]) Z W rfl
          have HJ : Hid ((judgeR Z).xCode = 0 → _) := judged (z := Z)
          have HK : Hid ((judgeR Z).xCode ≠ 0 → trustR Z = ⟨(judgeR Z).xCode, 0⟩) := trustR_no (z := Z)
          have HJN : Hid (Z.xSome = false → judgeR Z = ⟨4, 0, 0⟩) := fun h => judgeR_none (by simp [h])
          have HV := HQV.out hab
          have HW := HQW.out hab
          have HV2 : Hid _ := HV
          have HW2 : Hid _ := HW
          clear HV HW HQV HQW hab KRS
          generalize judgeR Z = P at *
          generalize trustR Z = T at *
          clear rN XN3
          have Ra := XR2.at.1
          have Rl := XR2.lt
          go_wp2_with fail
          clear Ra Rl
          refine (KP _).mono ?_
          rintro e w8 ⟨u4, rfl, hu4, k8⟩
          unfold RdPairResult at hu4
          subst hu4
          replace XN2 := XN2.keep k8
          replace XR2 := XR2.keep k8
          replace B := B.trans (k8.mono B.size)
          clear k8
          have Ra := XR2.at.1
          have Rl := XR2.lt
          go_wp2_with fail
          clear Ra Rl
          have XP := Blk.new w8 54 #[.int .i64 P.xCode, .int .i64 P.xFirst, .int .i64 P.xSecond]
          replace XN2 := XN2.alloc (.cells #[.int .i64 P.xCode, .int .i64 P.xFirst, .int .i64 P.xSecond] 54)
          replace XR2 := XR2.alloc (.cells #[.int .i64 P.xCode, .int .i64 P.xFirst, .int .i64 P.xSecond] 54)
          replace B := B.alloc B.size (.cells #[.int .i64 P.xCode, .int .i64 P.xFirst, .int .i64 P.xSecond] 54)
          generalize w8.heap.size = b11 at *
          refine Calls.at (F := fun V => Blk V b3 46 #[.slice p0 x.xTape.length c0, .slice p1 x.xUsed.length c1, .int .i64 x.xSent, .slice (some ⟨gh, oh, none⟩) 4 c2, .int .i64 x.xCheat.xWho, .int .i64 x.xCheat.xAt, .int .i64 x.xCheat.xBy, .bool x.xCheat.xCry, .bool x.xQuarrel.xSome, .int .i64 x.xQuarrel.xFrom, .int .i64 x.xQuarrel.xCheck, .int .i64 x.xQuarrel.xTo, .int .i64 x.xQuarrel.xTold, .int .i64 x.xQuarrel.xHeard, .int .i64 x.xQuarrel.xOther, .int .i64 x.xQuarrel.xVowed] ∧ Blk V b10 50 #[.int .i64 0, .int .i64 uu, .slice q0 x.xTape.length d0, .slice q1 x.xUsed.length d1, .int .i64 (x.xSent + 2), .slice (some ⟨gv, ov, none⟩) 4 d2, .int .i64 x.xCheat.xWho, .int .i64 x.xCheat.xAt, .int .i64 x.xCheat.xBy, .bool x.xCheat.xCry, .bool Z.xSome, .int .i64 Z.xFrom, .int .i64 Z.xCheck, .int .i64 Z.xTo, .int .i64 Z.xTold, .int .i64 Z.xHeard, .int .i64 Z.xOther, .int .i64 Z.xVowed] ∧ Blk V b11 54 #[.int .i64 P.xCode, .int .i64 P.xFirst, .int .i64 P.xSecond] ∧ Below w.heap.size w V) ⟨XN2, XR2, XP, B⟩ ?_
          clear XN2 XR2 XP B
          rintro V9 ⟨XN2, XR2, XP, B⟩
          refine (KT _).mono ?_
          rintro e w10 ⟨u5, rfl, hu5, k10⟩
          unfold RdIntResult at hu5
          subst hu5
          replace XN2 := XN2.keep k10
          replace XR2 := XR2.keep k10
          replace XP := XP.keep k10
          replace B := B.trans (k10.mono B.size)
          clear k10
          clear KP KT
          have XT := Blk.new w10 35 #[.int .i64 T.xCode, .int .i64 T.xValue]
          have hbT : w10.heap.size = w10.heap.size := rfl
          replace XN2 := XN2.alloc (.cells #[.int .i64 T.xCode, .int .i64 T.xValue] 35)
          replace XR2 := XR2.alloc (.cells #[.int .i64 T.xCode, .int .i64 T.xValue] 35)
          replace XP := XP.alloc (.cells #[.int .i64 T.xCode, .int .i64 T.xValue] 35)
          replace B := B.alloc B.size (.cells #[.int .i64 T.xCode, .int .i64 T.xValue] 35)
          have Ra := XR2.at.1
          have Rl := XR2.lt
          have Na := XN2.at.1
          have Nl := XN2.lt
          have Pa := XP.at.1
          have Pl := XP.lt
          have Ta := XT.at.1
          have Tl := XT.lt
          cases hzs : Z.xSome
          · have hP := HJN.out hzs
            have hT : T = ⟨4, 0⟩ := by have := HK.out (by rw [hP]; simp); rw [this, hP]
            have hU := HV2.out hzs
            subst hP hT
            have eu : (uu == aa) = true := by simpa using hU
            have e4 : ((4 : Int) == 4) = true := by simp
            clear HJ HK HJN HV2 HW2 hU
            simp only [hzs] at Ra
            go_wp2
            go_ret
            exact ⟨rfl, B⟩
          · obtain ⟨hc, hwho, hpos⟩ := HW2.out hzs
            obtain ⟨f1, f2, f3, f4, f5, f6⟩ := HJ.out hc
            have ec : (P.xCode == 0) = true := by simpa using hc
            have el : decide (P.xFirst < P.xSecond) = true := by simpa using f1
            have et : (T.xCode == 0) = true := by simpa using f2
            have en1 : (T.xValue != P.xFirst) = true := by simpa using f3
            have en2 : (T.xValue != P.xSecond) = true := by simpa using f4
            have enw : (T.xValue != x.xCheat.xWho) = true := by rcases hwho with h | h <;> rw [h] <;> assumption
            have ep : decide (0 ≤ x.xCheat.xWho) = true := by simpa using hpos
            simp only [hzs] at Ra
            rcases hwho with hw1 | hw1
            · have ew1 : (P.xFirst == x.xCheat.xWho) = true := by simpa using hw1.symm
              clear HJ HK HJN HV2 HW2 hc hpos f1 f2 f3 f4 f5 f6 hw1
              go_wp2
              go_ret
              exact ⟨rfl, B⟩
            · have ew1 : (P.xFirst == x.xCheat.xWho) = false := by rw [hw1]; simp; omega
              have ew2 : (P.xSecond == x.xCheat.xWho) = true := by simpa using hw1.symm
              clear HJ HK HJN HV2 HW2 hc hpos f1 f2 f3 f4 f5 f6 hw1
              go_wp2
              go_ret
              exact ⟨rfl, B⟩
        · have eab : (aa != bb) = true := by simpa using hab
          have fn1 := fieldNR_1
          have fn2 := fieldNR_2
          have fq5 := fieldN_5
          have eqq := run_eqQ
          have eu : (uu == uu) = true := by simp
          clear XN2 HQV HQW hab
          go_wp2_with fail
          refine wp_region_held (S := fun V => (∀ o, V.cell? ⟨b3, o, none⟩ = (#[.slice p0 x.xTape.length c0, .slice p1 x.xUsed.length c1, .int .i64 x.xSent, .slice (some ⟨gh, oh, none⟩) x.xHeard.length c2, .int .i64 x.xCheat.xWho, .int .i64 x.xCheat.xAt, .int .i64 x.xCheat.xBy, .bool x.xCheat.xCry, .bool x.xQuarrel.xSome, .int .i64 x.xQuarrel.xFrom, .int .i64 x.xQuarrel.xCheck, .int .i64 x.xQuarrel.xTo, .int .i64 x.xQuarrel.xTold, .int .i64 x.xQuarrel.xHeard, .int .i64 x.xQuarrel.xOther, .int .i64 x.xQuarrel.xVowed] : Array Value)[o]?) ∧ (∀ o, V.cell? ⟨b10, o, none⟩ = (#[.int .i64 0, .int .i64 uu, .slice q0 x.xTape.length d0, .slice q1 x.xUsed.length d1, .int .i64 (x.xSent + 2), .slice (some ⟨gv, ov, none⟩) 4 d2, .int .i64 x.xCheat.xWho, .int .i64 x.xCheat.xAt, .int .i64 x.xCheat.xBy, .bool x.xCheat.xCry, .bool Z.xSome, .int .i64 Z.xFrom, .int .i64 Z.xCheck, .int .i64 Z.xTo, .int .i64 Z.xTold, .int .i64 Z.xHeard, .int .i64 Z.xOther, .int .i64 Z.xVowed] : Array Value)[o]?)) (by kernel_rfl) ?_
          try (change wpAnyH _ _ _ _ _ _ _ _ (World.drew _))
          replace XN3 := XN3.drew
          replace XR2 := XR2.drew
          replace rN := rN.below (Below.refl _ _).drew
          replace B := B.drew
          have hS : (∀ o, wy.drew.drew.cell? ⟨b3, o, none⟩ = (#[.slice p0 x.xTape.length c0, .slice p1 x.xUsed.length c1, .int .i64 x.xSent, .slice (some ⟨gh, oh, none⟩) x.xHeard.length c2, .int .i64 x.xCheat.xWho, .int .i64 x.xCheat.xAt, .int .i64 x.xCheat.xBy, .bool x.xCheat.xCry, .bool x.xQuarrel.xSome, .int .i64 x.xQuarrel.xFrom, .int .i64 x.xQuarrel.xCheck, .int .i64 x.xQuarrel.xTo, .int .i64 x.xQuarrel.xTold, .int .i64 x.xQuarrel.xHeard, .int .i64 x.xQuarrel.xOther, .int .i64 x.xQuarrel.xVowed] : Array Value)[o]?) ∧ (∀ o, wy.drew.drew.cell? ⟨b10, o, none⟩ = (#[.int .i64 0, .int .i64 uu, .slice q0 x.xTape.length d0, .slice q1 x.xUsed.length d1, .int .i64 (x.xSent + 2), .slice (some ⟨gv, ov, none⟩) 4 d2, .int .i64 x.xCheat.xWho, .int .i64 x.xCheat.xAt, .int .i64 x.xCheat.xBy, .bool x.xCheat.xCry, .bool Z.xSome, .int .i64 Z.xFrom, .int .i64 Z.xCheck, .int .i64 Z.xTo, .int .i64 Z.xTold, .int .i64 Z.xHeard, .int .i64 Z.xOther, .int .i64 Z.xVowed] : Array Value)[o]?) := ⟨XN3.at.1, XR2.at.1⟩
          refine wpAnyH_take (i := 0) (v := ?vn253) rfl (by kernel_rfl) (by kernel_rfl) (by kernel_rfl) (fun _ _ _ h => h) (Or.inl ⟨by rfl, ?hn253⟩) hS ?rn253
          case hn253 => intro w' hSw; go_simp; (try with_reducible rfl)
          (try simp only [List.getElem_toArray]); (try simp only [List.getElem_cons_succ]); (try simp only [List.getElem_cons_zero]); (try simp only [Act.put]); (try simp only [List.setIfInBounds_toArray]); (try simp only [List.set_cons_succ]); (try simp only [List.set_cons_zero])
          refine wpAnyH_take (i := 1) (v := ?vn254) rfl (by kernel_rfl) (by kernel_rfl) (by kernel_rfl) (fun _ _ _ h => h) (Or.inl ⟨by rfl, ?hn254⟩) hS ?rn254
          case hn254 => intro w' hSw; go_simp; (try with_reducible rfl)
          (try simp only [List.getElem_toArray]); (try simp only [List.getElem_cons_succ]); (try simp only [List.getElem_cons_zero]); (try simp only [Act.put]); (try simp only [List.setIfInBounds_toArray]); (try simp only [List.set_cons_succ]); (try simp only [List.set_cons_zero])
          refine wpAnyH_take (i := 2) (v := ?vn255) rfl (by kernel_rfl) (by kernel_rfl) (by kernel_rfl) (fun _ _ _ h => h) (Or.inl ⟨by rfl, ?hn255⟩) hS ?rn255
          case hn255 => intro w' hSw; go_simp; (try with_reducible rfl)
          (try simp only [List.getElem_toArray]); (try simp only [List.getElem_cons_succ]); (try simp only [List.getElem_cons_zero]); (try simp only [Act.put]); (try simp only [List.setIfInBounds_toArray]); (try simp only [List.set_cons_succ]); (try simp only [List.set_cons_zero])
          refine wpAnyH_take (i := 3) (v := ?vn256) rfl (by kernel_rfl) (by kernel_rfl) (by kernel_rfl) (fun _ _ _ h => h) (Or.inl ⟨by rfl, ?hn256⟩) hS ?rn256
          case hn256 => intro w' hSw; go_simp; (try with_reducible rfl)
          (try simp only [List.getElem_toArray]); (try simp only [List.getElem_cons_succ]); (try simp only [List.getElem_cons_zero]); (try simp only [Act.put]); (try simp only [List.setIfInBounds_toArray]); (try simp only [List.set_cons_succ]); (try simp only [List.set_cons_zero])
          refine wpAnyH_take (i := 4) (v := ?vn257) rfl (by kernel_rfl) (by kernel_rfl) (by kernel_rfl) (fun _ _ _ h => h) (Or.inl ⟨by rfl, ?hn257⟩) hS ?rn257
          case hn257 => intro w' hSw; go_simp; (try with_reducible rfl)
          (try simp only [List.getElem_toArray]); (try simp only [List.getElem_cons_succ]); (try simp only [List.getElem_cons_zero]); (try simp only [Act.put]); (try simp only [List.setIfInBounds_toArray]); (try simp only [List.set_cons_succ]); (try simp only [List.set_cons_zero])
          refine wpAnyH_take (i := 5) (v := ?vn258) rfl (by kernel_rfl) (by kernel_rfl) (by kernel_rfl) (fun _ _ _ h => h) (Or.inl ⟨by rfl, ?hn258⟩) hS ?rn258
          case hn258 => intro w' hSw; go_simp; (try with_reducible rfl)
          (try simp only [List.getElem_toArray]); (try simp only [List.getElem_cons_succ]); (try simp only [List.getElem_cons_zero]); (try simp only [Act.put]); (try simp only [List.setIfInBounds_toArray]); (try simp only [List.set_cons_succ]); (try simp only [List.set_cons_zero])
          refine wpAnyH_take (i := 6) (v := ?vn259) rfl (by kernel_rfl) (by kernel_rfl) (by kernel_rfl) (fun _ _ _ h => h) (Or.inl ⟨by rfl, ?hn259⟩) hS ?rn259
          case hn259 => intro w' hSw; go_simp; (try with_reducible rfl)
          (try simp only [List.getElem_toArray]); (try simp only [List.getElem_cons_succ]); (try simp only [List.getElem_cons_zero]); (try simp only [Act.put]); (try simp only [List.setIfInBounds_toArray]); (try simp only [List.set_cons_succ]); (try simp only [List.set_cons_zero])
          refine wpAnyH_take (i := 7) (v := ?vn260) rfl (by kernel_rfl) (by kernel_rfl) (by kernel_rfl) (fun _ _ _ h => h) (Or.inl ⟨by rfl, ?hn260⟩) hS ?rn260
          case hn260 => intro w' hSw; go_simp; (try with_reducible rfl)
          (try simp only [List.getElem_toArray]); (try simp only [List.getElem_cons_succ]); (try simp only [List.getElem_cons_zero]); (try simp only [Act.put]); (try simp only [List.setIfInBounds_toArray]); (try simp only [List.set_cons_succ]); (try simp only [List.set_cons_zero])
          refine wpAnyH_take (i := 8) (v := ?vn261) rfl (by kernel_rfl) (by kernel_rfl) (by kernel_rfl) (fun _ _ _ h => h) (Or.inl ⟨by rfl, ?hn261⟩) hS ?rn261
          case hn261 => intro w' hSw; go_simp; (try with_reducible rfl)
          (try simp only [List.getElem_toArray]); (try simp only [List.getElem_cons_succ]); (try simp only [List.getElem_cons_zero]); (try simp only [Act.put]); (try simp only [List.setIfInBounds_toArray]); (try simp only [List.set_cons_succ]); (try simp only [List.set_cons_zero])
          refine wpAnyH_ready (rs := [9]) (by kernel_rfl) (by simp) ?_
          refine AllReadyH.cons (o := _) rfl (fun K hK => ?_) AllReadyH.nil
          rw [if_pos (by rfl)]
          go_simp
          go_at_call 17
          clear hS
          refine (KRS _ rN).mono ?_
          rintro e w14 ⟨u9, bc0, bc1, bc2, rfl, ON9, -, -, -, k14⟩
          obtain ⟨s0, t0, s1, t1, s2, t2, rfl, n0, n1, n2, -⟩ := ON9
          clear n0 n1 n2
          dsimp only
          replace XN3 := XN3.keep k14
          replace XR2 := XR2.keep k14
          replace rN := rN.below k14
          replace B := B.trans (k14.mono B.size)
          clear k14
          have hS : (∀ o, w14.cell? ⟨b3, o, none⟩ = (#[.slice p0 x.xTape.length c0, .slice p1 x.xUsed.length c1, .int .i64 x.xSent, .slice (some ⟨gh, oh, none⟩) x.xHeard.length c2, .int .i64 x.xCheat.xWho, .int .i64 x.xCheat.xAt, .int .i64 x.xCheat.xBy, .bool x.xCheat.xCry, .bool x.xQuarrel.xSome, .int .i64 x.xQuarrel.xFrom, .int .i64 x.xQuarrel.xCheck, .int .i64 x.xQuarrel.xTo, .int .i64 x.xQuarrel.xTold, .int .i64 x.xQuarrel.xHeard, .int .i64 x.xQuarrel.xOther, .int .i64 x.xQuarrel.xVowed] : Array Value)[o]?) ∧ (∀ o, w14.cell? ⟨b10, o, none⟩ = (#[.int .i64 0, .int .i64 uu, .slice q0 x.xTape.length d0, .slice q1 x.xUsed.length d1, .int .i64 (x.xSent + 2), .slice (some ⟨gv, ov, none⟩) 4 d2, .int .i64 x.xCheat.xWho, .int .i64 x.xCheat.xAt, .int .i64 x.xCheat.xBy, .bool x.xCheat.xCry, .bool Z.xSome, .int .i64 Z.xFrom, .int .i64 Z.xCheck, .int .i64 Z.xTo, .int .i64 Z.xTold, .int .i64 Z.xHeard, .int .i64 Z.xOther, .int .i64 Z.xVowed] : Array Value)[o]?) := ⟨XN3.at.1, XR2.at.1⟩
          refine hK.out _ _ hS (fun hS => ?_)
          clear hK K
          (try simp only [List.getElem_toArray]); (try simp only [List.getElem_cons_succ]); (try simp only [List.getElem_cons_zero]); (try simp only [Act.put]); (try simp only [List.setIfInBounds_toArray]); (try simp only [List.set_cons_succ]); (try simp only [List.set_cons_zero])
          refine wpAnyH_take (i := 10) (v := ?vn262) rfl (by kernel_rfl) (by kernel_rfl) (by kernel_rfl) (fun _ _ _ h => h) (Or.inl ⟨by rfl, ?hn262⟩) hS ?rn262
          case hn262 => intro w' hSw; go_simp; (try with_reducible rfl)
          (try simp only [List.getElem_toArray]); (try simp only [List.getElem_cons_succ]); (try simp only [List.getElem_cons_zero]); (try simp only [Act.put]); (try simp only [List.setIfInBounds_toArray]); (try simp only [List.set_cons_succ]); (try simp only [List.set_cons_zero])
          refine wpAnyH_take (i := 11) (v := ?vn263) rfl (by kernel_rfl) (by kernel_rfl) (by kernel_rfl) (fun _ _ _ h => h) (Or.inl ⟨by rfl, ?hn263⟩) hS ?rn263
          case hn263 => intro w' hSw; go_simp; (try with_reducible rfl)
          (try simp only [List.getElem_toArray]); (try simp only [List.getElem_cons_succ]); (try simp only [List.getElem_cons_zero]); (try simp only [Act.put]); (try simp only [List.setIfInBounds_toArray]); (try simp only [List.set_cons_succ]); (try simp only [List.set_cons_zero])
          refine wpAnyH_take (i := 12) (v := ?vn264) rfl (by kernel_rfl) (by kernel_rfl) (by kernel_rfl) (fun _ _ _ h => h) (Or.inl ⟨by rfl, ?hn264⟩) hS ?rn264
          case hn264 => intro w' hSw; go_simp; (try with_reducible rfl)
          (try simp only [List.getElem_toArray]); (try simp only [List.getElem_cons_succ]); (try simp only [List.getElem_cons_zero]); (try simp only [Act.put]); (try simp only [List.setIfInBounds_toArray]); (try simp only [List.set_cons_succ]); (try simp only [List.set_cons_zero])
          refine wpAnyH_take (i := 13) (v := ?vn265) rfl (by kernel_rfl) (by kernel_rfl) (by kernel_rfl) (fun _ _ _ h => h) (Or.inl ⟨by rfl, ?hn265⟩) hS ?rn265
          case hn265 => intro w' hSw; go_simp; (try with_reducible rfl)
          (try simp only [List.getElem_toArray]); (try simp only [List.getElem_cons_succ]); (try simp only [List.getElem_cons_zero]); (try simp only [Act.put]); (try simp only [List.setIfInBounds_toArray]); (try simp only [List.set_cons_succ]); (try simp only [List.set_cons_zero])
          refine wpAnyH_take (i := 14) (v := ?vn266) rfl (by kernel_rfl) (by kernel_rfl) (by kernel_rfl) (fun _ _ _ h => h) (Or.inl ⟨by rfl, ?hn266⟩) hS ?rn266
          case hn266 => intro w' hSw; go_simp; (try with_reducible rfl)
          (try simp only [List.getElem_toArray]); (try simp only [List.getElem_cons_succ]); (try simp only [List.getElem_cons_zero]); (try simp only [Act.put]); (try simp only [List.setIfInBounds_toArray]); (try simp only [List.set_cons_succ]); (try simp only [List.set_cons_zero])
          refine wpAnyH_take (i := 15) (v := ?vn267) rfl (by kernel_rfl) (by kernel_rfl) (by kernel_rfl) (fun _ _ _ h => h) (Or.inl ⟨by rfl, ?hn267⟩) hS ?rn267
          case hn267 => intro w' hSw; go_simp; (try with_reducible rfl)
          (try simp only [List.getElem_toArray]); (try simp only [List.getElem_cons_succ]); (try simp only [List.getElem_cons_zero]); (try simp only [Act.put]); (try simp only [List.setIfInBounds_toArray]); (try simp only [List.set_cons_succ]); (try simp only [List.set_cons_zero])
          refine wpAnyH_take (i := 16) (v := ?vn268) rfl (by kernel_rfl) (by kernel_rfl) (by kernel_rfl) (fun _ _ _ h => h) (Or.inl ⟨by rfl, ?hn268⟩) hS ?rn268
          case hn268 => intro w' hSw; go_simp; (try with_reducible rfl)
          (try simp only [List.getElem_toArray]); (try simp only [List.getElem_cons_succ]); (try simp only [List.getElem_cons_zero]); (try simp only [Act.put]); (try simp only [List.setIfInBounds_toArray]); (try simp only [List.set_cons_succ]); (try simp only [List.set_cons_zero])
          refine wpAnyH_take (i := 17) (v := ?vn269) rfl (by kernel_rfl) (by kernel_rfl) (by kernel_rfl) (fun _ _ _ h => h) (Or.inl ⟨by rfl, ?hn269⟩) hS ?rn269
          case hn269 => intro w' hSw; go_simp; (try with_reducible rfl)
          (try simp only [List.getElem_toArray]); (try simp only [List.getElem_cons_succ]); (try simp only [List.getElem_cons_zero]); (try simp only [Act.put]); (try simp only [List.setIfInBounds_toArray]); (try simp only [List.set_cons_succ]); (try simp only [List.set_cons_zero])
          refine wpAnyH_take (i := 18) (v := ?vn270) rfl (by kernel_rfl) (by kernel_rfl) (by kernel_rfl) (fun _ _ _ h => h) (Or.inl ⟨by rfl, ?hn270⟩) hS ?rn270
          case hn270 => intro w' hSw; go_simp; (try with_reducible rfl)
          (try simp only [List.getElem_toArray]); (try simp only [List.getElem_cons_succ]); (try simp only [List.getElem_cons_zero]); (try simp only [Act.put]); (try simp only [List.setIfInBounds_toArray]); (try simp only [List.set_cons_succ]); (try simp only [List.set_cons_zero])
          refine wpAnyH_take (i := 19) (v := ?vn271) rfl (by kernel_rfl) (by kernel_rfl) (by kernel_rfl) (fun _ _ _ h => h) (Or.inl ⟨by rfl, ?hn271⟩) hS ?rn271
          case hn271 => intro w' hSw; go_simp; (try with_reducible rfl)
          (try simp only [List.getElem_toArray]); (try simp only [List.getElem_cons_succ]); (try simp only [List.getElem_cons_zero]); (try simp only [Act.put]); (try simp only [List.setIfInBounds_toArray]); (try simp only [List.set_cons_succ]); (try simp only [List.set_cons_zero])
          refine wpAnyH_take (i := 20) (v := ?vn272) rfl (by kernel_rfl) (by kernel_rfl) (by kernel_rfl) (fun _ _ _ h => h) (Or.inl ⟨by rfl, ?hn272⟩) hS ?rn272
          case hn272 => intro w' hSw; go_simp; (try with_reducible rfl)
          (try simp only [List.getElem_toArray]); (try simp only [List.getElem_cons_succ]); (try simp only [List.getElem_cons_zero]); (try simp only [Act.put]); (try simp only [List.setIfInBounds_toArray]); (try simp only [List.set_cons_succ]); (try simp only [List.set_cons_zero])
          refine wpAnyH_take (i := 21) (v := ?vn273) rfl (by kernel_rfl) (by kernel_rfl) (by kernel_rfl) (fun _ _ _ h => h) (Or.inl ⟨by rfl, ?hn273⟩) hS ?rn273
          case hn273 => intro w' hSw; go_simp; (try with_reducible rfl)
          (try simp only [List.getElem_toArray]); (try simp only [List.getElem_cons_succ]); (try simp only [List.getElem_cons_zero]); (try simp only [Act.put]); (try simp only [List.setIfInBounds_toArray]); (try simp only [List.set_cons_succ]); (try simp only [List.set_cons_zero])
          refine wpAnyH_take (i := 22) (v := ?vn274) rfl (by kernel_rfl) (by kernel_rfl) (by kernel_rfl) (fun _ _ _ h => h) (Or.inl ⟨by rfl, ?hn274⟩) hS ?rn274
          case hn274 => intro w' hSw; go_simp; (try with_reducible rfl)
          (try simp only [List.getElem_toArray]); (try simp only [List.getElem_cons_succ]); (try simp only [List.getElem_cons_zero]); (try simp only [Act.put]); (try simp only [List.setIfInBounds_toArray]); (try simp only [List.set_cons_succ]); (try simp only [List.set_cons_zero])
          refine wpAnyH_ready (rs := [23]) (by kernel_rfl) (by simp) ?_
          refine AllReadyH.cons (o := _) rfl (fun K hK => ?_) AllReadyH.nil
          rw [if_pos (by rfl)]
          go_simp
          go_at_call 17
          clear hS
          refine (KRS _ rN).mono ?_
          rintro e w15 ⟨u9b, bd0, bd1, bd2, rfl, ON9, -, -, -, k15⟩
          obtain ⟨r0, v0, r1, v1, r2, v2, rfl, n0, n1, n2, -⟩ := ON9
          clear n0 n1 n2
          dsimp only
          replace XN3 := XN3.keep k15
          replace XR2 := XR2.keep k15
          replace rN := rN.below k15
          replace B := B.trans (k15.mono B.size)
          clear k15
          have hS : (∀ o, w15.cell? ⟨b3, o, none⟩ = (#[.slice p0 x.xTape.length c0, .slice p1 x.xUsed.length c1, .int .i64 x.xSent, .slice (some ⟨gh, oh, none⟩) x.xHeard.length c2, .int .i64 x.xCheat.xWho, .int .i64 x.xCheat.xAt, .int .i64 x.xCheat.xBy, .bool x.xCheat.xCry, .bool x.xQuarrel.xSome, .int .i64 x.xQuarrel.xFrom, .int .i64 x.xQuarrel.xCheck, .int .i64 x.xQuarrel.xTo, .int .i64 x.xQuarrel.xTold, .int .i64 x.xQuarrel.xHeard, .int .i64 x.xQuarrel.xOther, .int .i64 x.xQuarrel.xVowed] : Array Value)[o]?) ∧ (∀ o, w15.cell? ⟨b10, o, none⟩ = (#[.int .i64 0, .int .i64 uu, .slice q0 x.xTape.length d0, .slice q1 x.xUsed.length d1, .int .i64 (x.xSent + 2), .slice (some ⟨gv, ov, none⟩) 4 d2, .int .i64 x.xCheat.xWho, .int .i64 x.xCheat.xAt, .int .i64 x.xCheat.xBy, .bool x.xCheat.xCry, .bool Z.xSome, .int .i64 Z.xFrom, .int .i64 Z.xCheck, .int .i64 Z.xTo, .int .i64 Z.xTold, .int .i64 Z.xHeard, .int .i64 Z.xOther, .int .i64 Z.xVowed] : Array Value)[o]?) := ⟨XN3.at.1, XR2.at.1⟩
          refine hK.out _ _ hS (fun hS => ?_)
          clear hK K
          (try simp only [List.getElem_toArray]); (try simp only [List.getElem_cons_succ]); (try simp only [List.getElem_cons_zero]); (try simp only [Act.put]); (try simp only [List.setIfInBounds_toArray]); (try simp only [List.set_cons_succ]); (try simp only [List.set_cons_zero])
          refine wpAnyH_take (i := 24) (v := ?vn275) rfl (by kernel_rfl) (by kernel_rfl) (by kernel_rfl) (fun _ _ _ h => h) (Or.inl ⟨by rfl, ?hn275⟩) hS ?rn275
          case hn275 => intro w' hSw; go_simp; (try with_reducible rfl)
          (try simp only [List.getElem_toArray]); (try simp only [List.getElem_cons_succ]); (try simp only [List.getElem_cons_zero]); (try simp only [Act.put]); (try simp only [List.setIfInBounds_toArray]); (try simp only [List.set_cons_succ]); (try simp only [List.set_cons_zero])
          refine wpAnyH_take (i := 25) (v := ?vn276) rfl (by kernel_rfl) (by kernel_rfl) (by kernel_rfl) (fun _ _ _ h => h) (Or.inl ⟨by rfl, ?hn276⟩) hS ?rn276
          case hn276 => intro w' hSw; go_simp; (try with_reducible rfl)
          (try simp only [List.getElem_toArray]); (try simp only [List.getElem_cons_succ]); (try simp only [List.getElem_cons_zero]); (try simp only [Act.put]); (try simp only [List.setIfInBounds_toArray]); (try simp only [List.set_cons_succ]); (try simp only [List.set_cons_zero])
          refine wpAnyH_take (i := 26) (v := ?vn277) rfl (by kernel_rfl) (by kernel_rfl) (by kernel_rfl) (fun _ _ _ h => h) (Or.inl ⟨by rfl, ?hn277⟩) hS ?rn277
          case hn277 => intro w' hSw; go_simp; (try with_reducible rfl)
          (try simp only [List.getElem_toArray]); (try simp only [List.getElem_cons_succ]); (try simp only [List.getElem_cons_zero]); (try simp only [Act.put]); (try simp only [List.setIfInBounds_toArray]); (try simp only [List.set_cons_succ]); (try simp only [List.set_cons_zero])
          refine wpAnyH_take (i := 27) (v := ?vn278) rfl (by kernel_rfl) (by kernel_rfl) (by kernel_rfl) (fun _ _ _ h => h) (Or.inl ⟨by rfl, ?hn278⟩) hS ?rn278
          case hn278 => intro w' hSw; go_simp; (try with_reducible rfl)
          (try simp only [List.getElem_toArray]); (try simp only [List.getElem_cons_succ]); (try simp only [List.getElem_cons_zero]); (try simp only [Act.put]); (try simp only [List.setIfInBounds_toArray]); (try simp only [List.set_cons_succ]); (try simp only [List.set_cons_zero])
          refine wpAnyH_take (i := 28) (v := ?vn279) rfl (by kernel_rfl) (by kernel_rfl) (by kernel_rfl) (fun _ _ _ h => h) (Or.inl ⟨by rfl, ?hn279⟩) hS ?rn279
          case hn279 => intro w' hSw; go_simp; (try with_reducible rfl)
          (try simp only [List.getElem_toArray]); (try simp only [List.getElem_cons_succ]); (try simp only [List.getElem_cons_zero]); (try simp only [Act.put]); (try simp only [List.setIfInBounds_toArray]); (try simp only [List.set_cons_succ]); (try simp only [List.set_cons_zero])
          refine wpAnyH_done (by kernel_rfl) ?_ _
          clear hS
          go_wp2
          go_ret
          exact ⟨rfl, B⟩
    · as_aux_lemma =>
        have ef : (R.xCode != 0) = true := by simpa using hf
        have eq : (R.xCode == R.xCode) = true := by simp
        have KNI := fun W h => impl_NetFault (.agg #[.slice p0 x.xTape.length c0, .slice p1 x.xUsed.length c1, .int .i64 x.xSent, .slice p2 x.xHeard.length c2, .int .i64 x.xCheat.xWho, .int .i64 x.xCheat.xAt, .int .i64 x.xCheat.xBy, .bool x.xCheat.xCry, .bool x.xQuarrel.xSome, .int .i64 x.xQuarrel.xFrom, .int .i64 x.xQuarrel.xCheck, .int .i64 x.xQuarrel.xTo, .int .i64 x.xQuarrel.xTold, .int .i64 x.xQuarrel.xHeard, .int .i64 x.xQuarrel.xOther, .int .i64 x.xQuarrel.xVowed]) x W h
        have KNS := fun W h => spec_NetFault (.agg #[.slice p0 x.xTape.length c0, .slice p1 x.xUsed.length c1, .int .i64 x.xSent, .slice p2 x.xHeard.length c2, .int .i64 x.xCheat.xWho, .int .i64 x.xCheat.xAt, .int .i64 x.xCheat.xBy, .bool x.xCheat.xCry, .bool x.xQuarrel.xSome, .int .i64 x.xQuarrel.xFrom, .int .i64 x.xQuarrel.xCheck, .int .i64 x.xQuarrel.xTo, .int .i64 x.xQuarrel.xTold, .int .i64 x.xQuarrel.xHeard, .int .i64 x.xQuarrel.xOther, .int .i64 x.xQuarrel.xVowed]) x W h
        generalize netC x = nc at *
        have en : (nc == nc) = true := by simp
        clear hf HT HTI rV
        have XRa := XR.at.1
        have XRl := XR.lt
        go_wp2_with fail
        clear XRa XRl
        refine wp_region_held (S := fun V => (∀ o, V.cell? ⟨b3, o, none⟩ = (#[.slice p0 x.xTape.length c0, .slice p1 x.xUsed.length c1, .int .i64 x.xSent, .slice p2 x.xHeard.length c2, .int .i64 x.xCheat.xWho, .int .i64 x.xCheat.xAt, .int .i64 x.xCheat.xBy, .bool x.xCheat.xCry, .bool x.xQuarrel.xSome, .int .i64 x.xQuarrel.xFrom, .int .i64 x.xQuarrel.xCheck, .int .i64 x.xQuarrel.xTo, .int .i64 x.xQuarrel.xTold, .int .i64 x.xQuarrel.xHeard, .int .i64 x.xQuarrel.xOther, .int .i64 x.xQuarrel.xVowed] : Array Value)[o]?) ∧ (∀ o, V.cell? ⟨b10, o, none⟩ = (#[.int .i64 R.xCode, .int .i64 R.xValue, .slice q0 R.xNet.xTape.length d0, .slice q1 R.xNet.xUsed.length d1, .int .i64 R.xNet.xSent, .slice q2 R.xNet.xHeard.length d2, .int .i64 R.xNet.xCheat.xWho, .int .i64 R.xNet.xCheat.xAt, .int .i64 R.xNet.xCheat.xBy, .bool R.xNet.xCheat.xCry, .bool R.xNet.xQuarrel.xSome, .int .i64 R.xNet.xQuarrel.xFrom, .int .i64 R.xNet.xQuarrel.xCheck, .int .i64 R.xNet.xQuarrel.xTo, .int .i64 R.xNet.xQuarrel.xTold, .int .i64 R.xNet.xQuarrel.xHeard, .int .i64 R.xNet.xQuarrel.xOther, .int .i64 R.xNet.xQuarrel.xVowed] : Array Value)[o]?)) (by kernel_rfl) ?_
        try (change wpAnyH _ _ _ _ _ _ _ _ (World.drew _))
        replace XN := XN.drew
        replace XR := XR.drew
        replace rN := rN.below (Below.refl _ _).drew
        replace B := B.drew
        have hS : (∀ o, wy.drew.cell? ⟨b3, o, none⟩ = (#[.slice p0 x.xTape.length c0, .slice p1 x.xUsed.length c1, .int .i64 x.xSent, .slice p2 x.xHeard.length c2, .int .i64 x.xCheat.xWho, .int .i64 x.xCheat.xAt, .int .i64 x.xCheat.xBy, .bool x.xCheat.xCry, .bool x.xQuarrel.xSome, .int .i64 x.xQuarrel.xFrom, .int .i64 x.xQuarrel.xCheck, .int .i64 x.xQuarrel.xTo, .int .i64 x.xQuarrel.xTold, .int .i64 x.xQuarrel.xHeard, .int .i64 x.xQuarrel.xOther, .int .i64 x.xQuarrel.xVowed] : Array Value)[o]?) ∧ (∀ o, wy.drew.cell? ⟨b10, o, none⟩ = (#[.int .i64 R.xCode, .int .i64 R.xValue, .slice q0 R.xNet.xTape.length d0, .slice q1 R.xNet.xUsed.length d1, .int .i64 R.xNet.xSent, .slice q2 R.xNet.xHeard.length d2, .int .i64 R.xNet.xCheat.xWho, .int .i64 R.xNet.xCheat.xAt, .int .i64 R.xNet.xCheat.xBy, .bool R.xNet.xCheat.xCry, .bool R.xNet.xQuarrel.xSome, .int .i64 R.xNet.xQuarrel.xFrom, .int .i64 R.xNet.xQuarrel.xCheck, .int .i64 R.xNet.xQuarrel.xTo, .int .i64 R.xNet.xQuarrel.xTold, .int .i64 R.xNet.xQuarrel.xHeard, .int .i64 R.xNet.xQuarrel.xOther, .int .i64 R.xNet.xQuarrel.xVowed] : Array Value)[o]?) := ⟨XN.at.1, XR.at.1⟩
        refine wpAnyH_take (i := 0) (v := ?vn280) rfl (by kernel_rfl) (by kernel_rfl) (by kernel_rfl) (fun _ _ _ h => h) (Or.inl ⟨by rfl, ?hn280⟩) hS ?rn280
        case hn280 => intro w' hSw; go_simp; (try with_reducible rfl)
        (try simp only [List.getElem_toArray]); (try simp only [List.getElem_cons_succ]); (try simp only [List.getElem_cons_zero]); (try simp only [Act.put]); (try simp only [List.setIfInBounds_toArray]); (try simp only [List.set_cons_succ]); (try simp only [List.set_cons_zero])
        refine wpAnyH_take (i := 1) (v := ?vn281) rfl (by kernel_rfl) (by kernel_rfl) (by kernel_rfl) (fun _ _ _ h => h) (Or.inl ⟨by rfl, ?hn281⟩) hS ?rn281
        case hn281 => intro w' hSw; go_simp; (try with_reducible rfl)
        (try simp only [List.getElem_toArray]); (try simp only [List.getElem_cons_succ]); (try simp only [List.getElem_cons_zero]); (try simp only [Act.put]); (try simp only [List.setIfInBounds_toArray]); (try simp only [List.set_cons_succ]); (try simp only [List.set_cons_zero])
        refine wpAnyH_take (i := 2) (v := ?vn282) rfl (by kernel_rfl) (by kernel_rfl) (by kernel_rfl) (fun _ _ _ h => h) (Or.inl ⟨by rfl, ?hn282⟩) hS ?rn282
        case hn282 => intro w' hSw; go_simp; (try with_reducible rfl)
        (try simp only [List.getElem_toArray]); (try simp only [List.getElem_cons_succ]); (try simp only [List.getElem_cons_zero]); (try simp only [Act.put]); (try simp only [List.setIfInBounds_toArray]); (try simp only [List.set_cons_succ]); (try simp only [List.set_cons_zero])
        refine wpAnyH_take (i := 3) (v := ?vn283) rfl (by kernel_rfl) (by kernel_rfl) (by kernel_rfl) (fun _ _ _ h => h) (Or.inl ⟨by rfl, ?hn283⟩) hS ?rn283
        case hn283 => intro w' hSw; go_simp; (try with_reducible rfl)
        (try simp only [List.getElem_toArray]); (try simp only [List.getElem_cons_succ]); (try simp only [List.getElem_cons_zero]); (try simp only [Act.put]); (try simp only [List.setIfInBounds_toArray]); (try simp only [List.set_cons_succ]); (try simp only [List.set_cons_zero])
        refine wpAnyH_take (i := 4) (v := ?vn284) rfl (by kernel_rfl) (by kernel_rfl) (by kernel_rfl) (fun _ _ _ h => h) (Or.inl ⟨by rfl, ?hn284⟩) hS ?rn284
        case hn284 => intro w' hSw; go_simp; (try with_reducible rfl)
        (try simp only [List.getElem_toArray]); (try simp only [List.getElem_cons_succ]); (try simp only [List.getElem_cons_zero]); (try simp only [Act.put]); (try simp only [List.setIfInBounds_toArray]); (try simp only [List.set_cons_succ]); (try simp only [List.set_cons_zero])
        refine wpAnyH_take (i := 5) (v := ?vn285) rfl (by kernel_rfl) (by kernel_rfl) (by kernel_rfl) (fun _ _ _ h => h) (Or.inl ⟨by rfl, ?hn285⟩) hS ?rn285
        case hn285 => intro w' hSw; go_simp; (try with_reducible rfl)
        (try simp only [List.getElem_toArray]); (try simp only [List.getElem_cons_succ]); (try simp only [List.getElem_cons_zero]); (try simp only [Act.put]); (try simp only [List.setIfInBounds_toArray]); (try simp only [List.set_cons_succ]); (try simp only [List.set_cons_zero])
        refine wpAnyH_take (i := 6) (v := ?vn286) rfl (by kernel_rfl) (by kernel_rfl) (by kernel_rfl) (fun _ _ _ h => h) (Or.inl ⟨by rfl, ?hn286⟩) hS ?rn286
        case hn286 => intro w' hSw; go_simp; (try with_reducible rfl)
        (try simp only [List.getElem_toArray]); (try simp only [List.getElem_cons_succ]); (try simp only [List.getElem_cons_zero]); (try simp only [Act.put]); (try simp only [List.setIfInBounds_toArray]); (try simp only [List.set_cons_succ]); (try simp only [List.set_cons_zero])
        refine wpAnyH_take (i := 9) (v := ?vn287) rfl (by kernel_rfl) (by kernel_rfl) (by kernel_rfl) (fun _ _ _ h => h) (Or.inl ⟨by rfl, ?hn287⟩) hS ?rn287
        case hn287 => intro w' hSw; go_simp; (try with_reducible rfl)
        (try simp only [List.getElem_toArray]); (try simp only [List.getElem_cons_succ]); (try simp only [List.getElem_cons_zero]); (try simp only [Act.put]); (try simp only [List.setIfInBounds_toArray]); (try simp only [List.set_cons_succ]); (try simp only [List.set_cons_zero])
        refine wpAnyH_take (i := 10) (v := ?vn288) rfl (by kernel_rfl) (by kernel_rfl) (by kernel_rfl) (fun _ _ _ h => h) (Or.inl ⟨by rfl, ?hn288⟩) hS ?rn288
        case hn288 => intro w' hSw; go_simp; (try with_reducible rfl)
        (try simp only [List.getElem_toArray]); (try simp only [List.getElem_cons_succ]); (try simp only [List.getElem_cons_zero]); (try simp only [Act.put]); (try simp only [List.setIfInBounds_toArray]); (try simp only [List.set_cons_succ]); (try simp only [List.set_cons_zero])
        refine wpAnyH_ready (rs := [7]) (by kernel_rfl) (by simp) ?_
        refine AllReadyH.cons (o := _) rfl (fun K hK => ?_) AllReadyH.nil
        rw [if_pos (by rfl)]
        go_simp
        go_at_call 17
        clear hS
        refine (KRS _ rN).mono ?_
        rintro e w16 ⟨u9, bc0, bc1, bc2, rfl, ON9, -, -, -, k16⟩
        obtain ⟨s0, t0, s1, t1, s2, t2, rfl, n0, n1, n2, -⟩ := ON9
        clear n0 n1 n2
        replace XN := XN.keep k16
        replace XR := XR.keep k16
        replace rN := rN.below k16
        replace B := B.trans (k16.mono B.size)
        clear k16
        have hS : (∀ o, w16.cell? ⟨b3, o, none⟩ = (#[.slice p0 x.xTape.length c0, .slice p1 x.xUsed.length c1, .int .i64 x.xSent, .slice p2 x.xHeard.length c2, .int .i64 x.xCheat.xWho, .int .i64 x.xCheat.xAt, .int .i64 x.xCheat.xBy, .bool x.xCheat.xCry, .bool x.xQuarrel.xSome, .int .i64 x.xQuarrel.xFrom, .int .i64 x.xQuarrel.xCheck, .int .i64 x.xQuarrel.xTo, .int .i64 x.xQuarrel.xTold, .int .i64 x.xQuarrel.xHeard, .int .i64 x.xQuarrel.xOther, .int .i64 x.xQuarrel.xVowed] : Array Value)[o]?) ∧ (∀ o, w16.cell? ⟨b10, o, none⟩ = (#[.int .i64 R.xCode, .int .i64 R.xValue, .slice q0 R.xNet.xTape.length d0, .slice q1 R.xNet.xUsed.length d1, .int .i64 R.xNet.xSent, .slice q2 R.xNet.xHeard.length d2, .int .i64 R.xNet.xCheat.xWho, .int .i64 R.xNet.xCheat.xAt, .int .i64 R.xNet.xCheat.xBy, .bool R.xNet.xCheat.xCry, .bool R.xNet.xQuarrel.xSome, .int .i64 R.xNet.xQuarrel.xFrom, .int .i64 R.xNet.xQuarrel.xCheck, .int .i64 R.xNet.xQuarrel.xTo, .int .i64 R.xNet.xQuarrel.xTold, .int .i64 R.xNet.xQuarrel.xHeard, .int .i64 R.xNet.xQuarrel.xOther, .int .i64 R.xNet.xQuarrel.xVowed] : Array Value)[o]?) := ⟨XN.at.1, XR.at.1⟩
        refine hK.out _ _ hS (fun hS => ?_)
        clear hK K
        (try simp only [List.getElem_toArray]); (try simp only [List.getElem_cons_succ]); (try simp only [List.getElem_cons_zero]); (try simp only [Act.put]); (try simp only [List.setIfInBounds_toArray]); (try simp only [List.set_cons_succ]); (try simp only [List.set_cons_zero])
        refine wpAnyH_take (i := 8) (v := ?vn289) rfl (by kernel_rfl) (by kernel_rfl) (by kernel_rfl) (fun _ _ _ h => h) (Or.inl ⟨by rfl, ?hn289⟩) hS ?rn289
        case hn289 => intro w' hSw; go_simp; (try with_reducible rfl)
        (try simp only [List.getElem_toArray]); (try simp only [List.getElem_cons_succ]); (try simp only [List.getElem_cons_zero]); (try simp only [Act.put]); (try simp only [List.setIfInBounds_toArray]); (try simp only [List.set_cons_succ]); (try simp only [List.set_cons_zero])
        refine wpAnyH_take (i := 11) (v := ?vn290) rfl (by kernel_rfl) (by kernel_rfl) (by kernel_rfl) (fun _ _ _ h => h) (Or.inl ⟨by rfl, ?hn290⟩) hS ?rn290
        case hn290 => intro w' hSw; go_simp; (try with_reducible rfl)
        (try simp only [List.getElem_toArray]); (try simp only [List.getElem_cons_succ]); (try simp only [List.getElem_cons_zero]); (try simp only [Act.put]); (try simp only [List.setIfInBounds_toArray]); (try simp only [List.set_cons_succ]); (try simp only [List.set_cons_zero])
        refine wpAnyH_take (i := 12) (v := ?vn291) rfl (by kernel_rfl) (by kernel_rfl) (by kernel_rfl) (fun _ _ _ h => h) (Or.inl ⟨by rfl, ?hn291⟩) hS ?rn291
        case hn291 => intro w' hSw; go_simp; (try with_reducible rfl)
        (try simp only [List.getElem_toArray]); (try simp only [List.getElem_cons_succ]); (try simp only [List.getElem_cons_zero]); (try simp only [Act.put]); (try simp only [List.setIfInBounds_toArray]); (try simp only [List.set_cons_succ]); (try simp only [List.set_cons_zero])
        refine wpAnyH_take (i := 13) (v := ?vn292) rfl (by kernel_rfl) (by kernel_rfl) (by kernel_rfl) (fun _ _ _ h => h) (Or.inl ⟨by rfl, ?hn292⟩) hS ?rn292
        case hn292 => intro w' hSw; go_simp; (try with_reducible rfl)
        (try simp only [List.getElem_toArray]); (try simp only [List.getElem_cons_succ]); (try simp only [List.getElem_cons_zero]); (try simp only [Act.put]); (try simp only [List.setIfInBounds_toArray]); (try simp only [List.set_cons_succ]); (try simp only [List.set_cons_zero])
        refine wpAnyH_take (i := 15) (v := ?vn293) rfl (by kernel_rfl) (by kernel_rfl) (by kernel_rfl) (fun _ _ _ h => h) (Or.inl ⟨by rfl, ?hn293⟩) hS ?rn293
        case hn293 => intro w' hSw; go_simp; (try with_reducible rfl)
        (try simp only [List.getElem_toArray]); (try simp only [List.getElem_cons_succ]); (try simp only [List.getElem_cons_zero]); (try simp only [Act.put]); (try simp only [List.setIfInBounds_toArray]); (try simp only [List.set_cons_succ]); (try simp only [List.set_cons_zero])
        refine wpAnyH_ready (rs := [14]) (by kernel_rfl) (by simp) ?_
        refine AllReadyH.cons (o := _) rfl (fun K hK => ?_) AllReadyH.nil
        rw [if_pos (by rfl)]
        go_simp
        go_at_call 18
        clear hS
        refine (KNI _ rN).mono ?_
        rintro e w17 ⟨rfl, k17⟩
        replace XN := XN.keep k17
        replace XR := XR.keep k17
        replace rN := rN.below k17
        replace B := B.trans (k17.mono B.size)
        clear k17
        have hS : (∀ o, w17.cell? ⟨b3, o, none⟩ = (#[.slice p0 x.xTape.length c0, .slice p1 x.xUsed.length c1, .int .i64 x.xSent, .slice p2 x.xHeard.length c2, .int .i64 x.xCheat.xWho, .int .i64 x.xCheat.xAt, .int .i64 x.xCheat.xBy, .bool x.xCheat.xCry, .bool x.xQuarrel.xSome, .int .i64 x.xQuarrel.xFrom, .int .i64 x.xQuarrel.xCheck, .int .i64 x.xQuarrel.xTo, .int .i64 x.xQuarrel.xTold, .int .i64 x.xQuarrel.xHeard, .int .i64 x.xQuarrel.xOther, .int .i64 x.xQuarrel.xVowed] : Array Value)[o]?) ∧ (∀ o, w17.cell? ⟨b10, o, none⟩ = (#[.int .i64 R.xCode, .int .i64 R.xValue, .slice q0 R.xNet.xTape.length d0, .slice q1 R.xNet.xUsed.length d1, .int .i64 R.xNet.xSent, .slice q2 R.xNet.xHeard.length d2, .int .i64 R.xNet.xCheat.xWho, .int .i64 R.xNet.xCheat.xAt, .int .i64 R.xNet.xCheat.xBy, .bool R.xNet.xCheat.xCry, .bool R.xNet.xQuarrel.xSome, .int .i64 R.xNet.xQuarrel.xFrom, .int .i64 R.xNet.xQuarrel.xCheck, .int .i64 R.xNet.xQuarrel.xTo, .int .i64 R.xNet.xQuarrel.xTold, .int .i64 R.xNet.xQuarrel.xHeard, .int .i64 R.xNet.xQuarrel.xOther, .int .i64 R.xNet.xQuarrel.xVowed] : Array Value)[o]?) := ⟨XN.at.1, XR.at.1⟩
        refine hK.out _ _ hS (fun hS => ?_)
        clear hK K
        (try simp only [List.getElem_toArray]); (try simp only [List.getElem_cons_succ]); (try simp only [List.getElem_cons_zero]); (try simp only [Act.put]); (try simp only [List.setIfInBounds_toArray]); (try simp only [List.set_cons_succ]); (try simp only [List.set_cons_zero])
        refine wpAnyH_ready (rs := [16]) (by kernel_rfl) (by simp) ?_
        refine AllReadyH.cons (o := _) rfl (fun K hK => ?_) AllReadyH.nil
        rw [if_pos (by rfl)]
        go_simp
        go_at_call 19
        clear hS
        refine (KNS _ rN).mono ?_
        rintro e w18 ⟨rfl, k18⟩
        replace XN := XN.keep k18
        replace XR := XR.keep k18
        replace rN := rN.below k18
        replace B := B.trans (k18.mono B.size)
        clear k18
        have hS : (∀ o, w18.cell? ⟨b3, o, none⟩ = (#[.slice p0 x.xTape.length c0, .slice p1 x.xUsed.length c1, .int .i64 x.xSent, .slice p2 x.xHeard.length c2, .int .i64 x.xCheat.xWho, .int .i64 x.xCheat.xAt, .int .i64 x.xCheat.xBy, .bool x.xCheat.xCry, .bool x.xQuarrel.xSome, .int .i64 x.xQuarrel.xFrom, .int .i64 x.xQuarrel.xCheck, .int .i64 x.xQuarrel.xTo, .int .i64 x.xQuarrel.xTold, .int .i64 x.xQuarrel.xHeard, .int .i64 x.xQuarrel.xOther, .int .i64 x.xQuarrel.xVowed] : Array Value)[o]?) ∧ (∀ o, w18.cell? ⟨b10, o, none⟩ = (#[.int .i64 R.xCode, .int .i64 R.xValue, .slice q0 R.xNet.xTape.length d0, .slice q1 R.xNet.xUsed.length d1, .int .i64 R.xNet.xSent, .slice q2 R.xNet.xHeard.length d2, .int .i64 R.xNet.xCheat.xWho, .int .i64 R.xNet.xCheat.xAt, .int .i64 R.xNet.xCheat.xBy, .bool R.xNet.xCheat.xCry, .bool R.xNet.xQuarrel.xSome, .int .i64 R.xNet.xQuarrel.xFrom, .int .i64 R.xNet.xQuarrel.xCheck, .int .i64 R.xNet.xQuarrel.xTo, .int .i64 R.xNet.xQuarrel.xTold, .int .i64 R.xNet.xQuarrel.xHeard, .int .i64 R.xNet.xQuarrel.xOther, .int .i64 R.xNet.xQuarrel.xVowed] : Array Value)[o]?) := ⟨XN.at.1, XR.at.1⟩
        refine hK.out _ _ hS (fun hS => ?_)
        clear hK K
        (try simp only [List.getElem_toArray]); (try simp only [List.getElem_cons_succ]); (try simp only [List.getElem_cons_zero]); (try simp only [Act.put]); (try simp only [List.setIfInBounds_toArray]); (try simp only [List.set_cons_succ]); (try simp only [List.set_cons_zero])
        refine wpAnyH_take (i := 17) (v := ?vn294) rfl (by kernel_rfl) (by kernel_rfl) (by kernel_rfl) (fun _ _ _ h => h) (Or.inl ⟨by rfl, ?hn294⟩) hS ?rn294
        case hn294 => intro w' hSw; go_simp; (try with_reducible rfl)
        (try simp only [List.getElem_toArray]); (try simp only [List.getElem_cons_succ]); (try simp only [List.getElem_cons_zero]); (try simp only [Act.put]); (try simp only [List.setIfInBounds_toArray]); (try simp only [List.set_cons_succ]); (try simp only [List.set_cons_zero])
        refine wpAnyH_take (i := 18) (v := ?vn295) rfl (by kernel_rfl) (by kernel_rfl) (by kernel_rfl) (fun _ _ _ h => h) (Or.inl ⟨by rfl, ?hn295⟩) hS ?rn295
        case hn295 => intro w' hSw; go_simp; (try with_reducible rfl)
        (try simp only [List.getElem_toArray]); (try simp only [List.getElem_cons_succ]); (try simp only [List.getElem_cons_zero]); (try simp only [Act.put]); (try simp only [List.setIfInBounds_toArray]); (try simp only [List.set_cons_succ]); (try simp only [List.set_cons_zero])
        refine wpAnyH_take (i := 19) (v := ?vn296) rfl (by kernel_rfl) (by kernel_rfl) (by kernel_rfl) (fun _ _ _ h => h) (Or.inl ⟨by rfl, ?hn296⟩) hS ?rn296
        case hn296 => intro w' hSw; go_simp; (try with_reducible rfl)
        (try simp only [List.getElem_toArray]); (try simp only [List.getElem_cons_succ]); (try simp only [List.getElem_cons_zero]); (try simp only [Act.put]); (try simp only [List.setIfInBounds_toArray]); (try simp only [List.set_cons_succ]); (try simp only [List.set_cons_zero])
        refine wpAnyH_done (by kernel_rfl) ?_ _
        clear hS
        go_wp2
        go_ret
        exact ⟨rfl, B⟩

/-! the row's step -/
set_option maxRecDepth 100000 in
theorem lifted (os : Os) (started : os.Started) (H : Type) (enc : TypeId × Value → H) :
    ReturnsInHanded {} Try.checked os 4 .any (Rows.fnJointsSpec.pre6 enc Try.prog Try.f4 Rows.fnJointsRow.domain false) (Rows.fnJointsSpec.post enc Try.prog Try.f4 false true false false) := by
  refine returnsInHanded_of_change (C := Try.checked) own started (by kernel_rfl) Try.func4
    (ChangeSpec.witness6 (enc := enc) (C := Try.checked) false ⟨#[], #[.slice none 0 0], []⟩ 8 (by kernel_rfl) (by kernel_rfl) (by kernel_rfl) (by kernel_rfl)) ?_
  intro W base args ds gs before hval0 hW hcnd _
  have hval : ∀ (j : Nat) t v, Try.f4.params[j]? = some t → args[j]? = some v → Value.okWide Try.prog W .any base t v := hval0
  have hW' := hW
  obtain ⟨p, q, hA0, hV, rfl, hfz, hnd⟩ := hW
  have hA : DataW.TrodAll enc Try.prog W 0 (fun _ => true) true Try.f4.params.toList args.toList ds p := hA0
  rw [Try.params4] at hA hval
  obtain ⟨v0, vs0, d0, ds0, p0, q0, hargs, rfl, rfl, h0, r0⟩ := trodAll_cons hA
  obtain ⟨rfl, rfl, rfl⟩ := trodAll_nil r0
  obtain rfl : args = #[v0] := by cases args; simp_all
  obtain ⟨rfl, rfl⟩ := trodVars_none hV
  obtain ⟨a0, len0, cap0, rfl⟩ := okWide_slice Try.underlying22 (hval 0 22 v0 rfl rfl)
  have k0 := h0
  have lt0 : ∀ x ∈ p0, x.block < W.heap.size := by obtain ⟨m, hm⟩ := k0; exact DataW.trod_lt m _ _ _ hm
  obtain ⟨z0, w0⟩ : ∃ zs, IsRow .u8 W a0 len0 cap0 zs := by
    obtain ⟨fuel, hf⟩ := h0
    rcases open_ints Try.underlying22 Try.underlying5 (by kernel_rfl) hf with ⟨hcs, _⟩ | ⟨x, l, c, zs, hcs, _, hl, hm, hz, _, hcell, hwz⟩
    · simp [Value.cells] at hcs
      obtain ⟨rfl, rfl, rfl⟩ := hcs
      exact ⟨[], .inl ⟨rfl, rfl, rfl, rfl⟩⟩
    · simp [Value.cells] at hcs
      obtain ⟨rfl, rfl, rfl⟩ := hcs
      exact ⟨zs, .inr ⟨_, rfl, hl, hm, by simpa using hz, hcell, hwz⟩⟩
  clear hA0 hval0
  refine (walk a0 len0 cap0 z0 W w0).mono fun e W' ⟨he, bel⟩ => ?_
  subst he
  exact ⟨_, rfl, _, _, _, [], _, [], hW', trodAll_mk1 (shut_bool Try.underlying4 _), (trodAll_cons_mk (Below.trod laidOut (by kernel_rfl) (of_decide_eq_true (by kernel_rfl)) k0 bel lt0) trodAll_mk0), rfl, bel.frame _, fun h => by cases h⟩

theorem over : Rows.fnJointsRow.holds Try.pinned (OpenSpec.ofChange Rows.fnJointsSpec) :=
  OpenClaim.holds_of_wide 4 Try.f4 rfl rfl rfl rfl rfl rfl rfl ⟨rfl, rfl, rfl, rfl, rfl⟩ rfl rfl rfl rfl rfl (by kernel_rfl) Try.func4 (by kernel_rfl)
    (of_decide_eq_true (by kernel_rfl)) (by unfold Func.isWrapper; first | (rw [if_pos (by decide +kernel)]; kernel_rfl) | (rw [if_neg (by decide +kernel)]; exact ⟨rfl, rfl⟩))
    (fun os started H enc _ => lifted os started H enc)

end Go.Proofs.Ytadppilldijijab.fnJoints
namespace Go.Proofs.Ytadppilldijijab
theorem fnJoints_holds : Rows.FnJointsSaid := fnJoints.over
#print axioms fnJoints_holds
end Go.Proofs.Ytadppilldijijab
