/-
  FnWords answers true whatever bytes it draws from: words of a lane are taken one behind the other.
-/
import Derived.Test.YtadppilldijijabDraw7
import Derived.Test.YtadppilldijijabSame
import Derived.Test.YtadppilldijijabLw
import Derived.Deep.RegionHeld3
import Derived.Deep.CutRange
import Derived.Deep.Cut
import Derived.Deep.RegionWith
import Derived.ShutString
import Derived.ChangeOld
import Derived.Below
namespace Go.Proofs.Ytadppilldijijab.fnWords
open Go.ChangeShapes Go.WideShapes Go.ChangeAt Go.RowKit
open Go.ChangeMaps (open_string shut_string)
set_option linter.unusedVariables false

theorem own : ownKnob Try.prog.godebug = none := by kernel_rfl
theorem laidOut : laidOutB Try.prog = true := by kernel_rfl

theorem fieldNR_0 (x0 x1 x2 x3 x4 x5 x6 x7 x8 x9 y0 y1 y2 y3 y4 y5 y6 y7 : Value) (w : World) : (Instr.field 50 (.agg #[x0, x1, x2, x3, x4, x5, x6, x7, x8, x9, y0, y1, y2, y3, y4, y5, y6, y7]) 0).run Try.prog w = .ok x0 w := by kernel_rfl
theorem takeR_zero {x : MNet} {lane q : Int} (h : (takeR x lane q).xCode = 0) : netC x = 0 ∧ (0 ≤ lane ∧ lane ≤ 3) ∧ (q = 2 ∨ q = 256) := by
  by_cases k0 : netC x = 0
  · by_cases k1 : (0 ≤ lane ∧ lane ≤ 3) ∧ (q = 2 ∨ q = 256)
    · exact ⟨k0, k1.1, k1.2⟩
    · rw [takeR_out k0 k1] at h; cases h
  · rw [takeR_fault _ _ k0] at h; exact absurd h k0
theorem getD_set_one (us : List Int) (l j : Nat) (y : Int) (hl : l < us.length) : (us.set l y).getD j 0 = if j = l then y else us.getD j 0 := by
  rw [List.getD_eq_getElem?_getD, List.getElem?_set]
  split
  · rename_i h
    subst h
    simp
  · rename_i h
    rw [if_neg (fun e => h e.symm), List.getD_eq_getElem?_getD]
set_option maxHeartbeats 16000000 in
set_option maxRecDepth 100000 in
theorem walk (a0 : Option Addr) (len0 cap0 : Nat) (z0 : List Int) (w : World) (w0 : IsRow .u8 w a0 len0 cap0 z0) :
    Calls Try.prog 6 #[.slice a0 len0 cap0] w fun e w' => e = .returned (.bool true) ∧ Below w.heap.size w w' := by
  obtain ⟨zs, rfl, hr, hw⟩ := w0.reads
  clear w0
  have hby := bytes_of hw
  clear hw
  by_cases hl : 1048576 < zs.length
  · go_enter Try.func6, Try.ntmps6
    go_wp2_with fail
    refine (lwBig_yes _ _ _ _ hl).mono ?_
    rintro e w' ⟨rfl, rfl⟩
    go_wp2
    go_ret
    exact ⟨rfl, Below.refl _ _⟩
  · have hl' : zs.length ≤ 1048576 := by omega
    have HR0 : Hid (Reads w .u8 (.slice a0 zs.length cap0) zs) := hr
    clear hr
    have fn0 := fieldNR_0
    have fi0 := field_0
    have fi1 := field_1
    go_enter Try.func6, Try.ntmps6
    go_wp2_with fail
    refine (lwBig_no _ _ _ _ hl').mono ?_
    rintro e w' ⟨rfl, rfl⟩
    go_wp2_with fail
    refine (spec_DrawTakeWord a0 cap0 zs w HR0.out hl' hby).mono ?_
    rintro e w1 ⟨p0, c0, p1, c1, p2, c2, x, lane, q, rfl, rN, hF, B⟩
    have HF : Hid (Fit x) := hF
    clear hF
    have HT : Hid ((takeR x lane q).xCode = 0 → _) := takeR_zero (x := x) (lane := lane) (q := q)
    have HTI : Hid (∀ _ : netC x = 0, ∀ _ : (0 ≤ lane ∧ lane ≤ 3) ∧ (q = 2 ∨ q = 256), takeR x lane q = ⟨0, word x.xTape lane (used x lane) % q, tookN x lane⟩) := fun h k => takeR_in h k
    have KR := fun W h => impl_TakeWord (.agg #[.slice p0 x.xTape.length c0, .slice p1 x.xUsed.length c1, .int .i64 x.xSent, .slice p2 x.xHeard.length c2, .int .i64 x.xCheat.xWho, .int .i64 x.xCheat.xAt, .int .i64 x.xCheat.xBy, .bool x.xCheat.xCry, .bool x.xQuarrel.xSome, .int .i64 x.xQuarrel.xFrom, .int .i64 x.xQuarrel.xCheck, .int .i64 x.xQuarrel.xTo, .int .i64 x.xQuarrel.xTold, .int .i64 x.xQuarrel.xHeard, .int .i64 x.xQuarrel.xOther, .int .i64 x.xQuarrel.xVowed]) x lane q W h HF.out
    have KRS := fun W h => spec_TakeWord (.agg #[.slice p0 x.xTape.length c0, .slice p1 x.xUsed.length c1, .int .i64 x.xSent, .slice p2 x.xHeard.length c2, .int .i64 x.xCheat.xWho, .int .i64 x.xCheat.xAt, .int .i64 x.xCheat.xBy, .bool x.xCheat.xCry, .bool x.xQuarrel.xSome, .int .i64 x.xQuarrel.xFrom, .int .i64 x.xQuarrel.xCheck, .int .i64 x.xQuarrel.xTo, .int .i64 x.xQuarrel.xTold, .int .i64 x.xQuarrel.xHeard, .int .i64 x.xQuarrel.xOther, .int .i64 x.xQuarrel.xVowed]) x lane q W h HF.out
    generalize hRR : takeR x lane q = R at *
    clear hRR
    have Zn := Blk.new w1 46 #[.slice none 0 0, .slice none 0 0, .int .i64 0, .slice none 0 0, .int .i64 0, .int .i64 0, .int .i64 0, .bool false, .bool false, .int .i64 0, .int .i64 0, .int .i64 0, .int .i64 0, .int .i64 0, .int .i64 0, .int .i64 0]
    go_wp2_with (first | (refine wpList_store_blk rfl 46 _ _ rfl w1.heap.size (#[.slice p0 x.xTape.length c0, .slice p1 x.xUsed.length c1, .int .i64 x.xSent, .slice p2 x.xHeard.length c2, .int .i64 x.xCheat.xWho, .int .i64 x.xCheat.xAt, .int .i64 x.xCheat.xBy, .bool x.xCheat.xCry, .bool x.xQuarrel.xSome, .int .i64 x.xQuarrel.xFrom, .int .i64 x.xQuarrel.xCheck, .int .i64 x.xQuarrel.xTo, .int .i64 x.xQuarrel.xTold, .int .i64 x.xQuarrel.xHeard, .int .i64 x.xQuarrel.xOther, .int .i64 x.xQuarrel.xVowed]) rfl rfl Zn rfl (by kernel_rfl) (by kernel_rfl) ?_; intro wx XN O2; have lg := Zn) | (refine wpList_load_blk rfl 46 _ rfl w1.heap.size rfl XN Try.underlying46 rfl (by kernel_rfl) ?_))
    have B2 : Below w.heap.size w wx := (B.alloc B.size _).trans (O2.toBelow (B.alloc B.size _).size (by have := B.size; simp; omega))
    have rN2 := rN.below (((Below.refl w1.heap.size w1).alloc (Nat.le_refl _) _).trans (O2.toBelow (by simp) (by simp)))
    clear rN B O2 Zn
    have rN := rN2
    have B := B2
    clear rN2 B2
    generalize w1.heap.size = b3 at *
    refine Calls.at (F := fun V => Blk V b3 46 #[.slice p0 x.xTape.length c0, .slice p1 x.xUsed.length c1, .int .i64 x.xSent, .slice p2 x.xHeard.length c2, .int .i64 x.xCheat.xWho, .int .i64 x.xCheat.xAt, .int .i64 x.xCheat.xBy, .bool x.xCheat.xCry, .bool x.xQuarrel.xSome, .int .i64 x.xQuarrel.xFrom, .int .i64 x.xQuarrel.xCheck, .int .i64 x.xQuarrel.xTo, .int .i64 x.xQuarrel.xTold, .int .i64 x.xQuarrel.xHeard, .int .i64 x.xQuarrel.xOther, .int .i64 x.xQuarrel.xVowed] ∧ RdNet V (.agg #[.slice p0 x.xTape.length c0, .slice p1 x.xUsed.length c1, .int .i64 x.xSent, .slice p2 x.xHeard.length c2, .int .i64 x.xCheat.xWho, .int .i64 x.xCheat.xAt, .int .i64 x.xCheat.xBy, .bool x.xCheat.xCry, .bool x.xQuarrel.xSome, .int .i64 x.xQuarrel.xFrom, .int .i64 x.xQuarrel.xCheck, .int .i64 x.xQuarrel.xTo, .int .i64 x.xQuarrel.xTold, .int .i64 x.xQuarrel.xHeard, .int .i64 x.xQuarrel.xOther, .int .i64 x.xQuarrel.xVowed]) x ∧ Below w.heap.size w V) ⟨XN, rN, B⟩ ?_
    clear XN rN B
    rintro V1 ⟨XN, rN, B⟩
    refine (KR _ rN).mono ?_
    rintro e w2 ⟨u6, bb0, bb1, bb2, rfl, ON, -, -, -, k2⟩
    obtain ⟨q0, d0, q1, d1, q2, d2, rfl, m0, m1, m2, -⟩ := ON
    have rM : ReadsM w2 (.slice q0 R.xNet.xTape.length d0) R.xNet.xTape := m0.reads
    have rV : Reads w2 .i64 (.slice q1 R.xNet.xUsed.length d1) R.xNet.xUsed := Ints.reads m1
    clear m0 m1 m2 KR
    replace XN := XN.keep k2
    replace rN := rN.below k2
    replace B := B.trans (k2.mono B.size)
    clear k2
    have Zr := Blk.new w2 50 #[.int .i64 0, .int .i64 0, .slice none 0 0, .slice none 0 0, .int .i64 0, .slice none 0 0, .int .i64 0, .int .i64 0, .int .i64 0, .bool false, .bool false, .int .i64 0, .int .i64 0, .int .i64 0, .int .i64 0, .int .i64 0, .int .i64 0, .int .i64 0]
    go_upto_region 5 with (refine wpList_store_blk rfl 50 _ _ rfl w2.heap.size (#[.int .i64 R.xCode, .int .i64 R.xValue, .slice q0 R.xNet.xTape.length d0, .slice q1 R.xNet.xUsed.length d1, .int .i64 R.xNet.xSent, .slice q2 R.xNet.xHeard.length d2, .int .i64 R.xNet.xCheat.xWho, .int .i64 R.xNet.xCheat.xAt, .int .i64 R.xNet.xCheat.xBy, .bool R.xNet.xCheat.xCry, .bool R.xNet.xQuarrel.xSome, .int .i64 R.xNet.xQuarrel.xFrom, .int .i64 R.xNet.xQuarrel.xCheck, .int .i64 R.xNet.xQuarrel.xTo, .int .i64 R.xNet.xQuarrel.xTold, .int .i64 R.xNet.xQuarrel.xHeard, .int .i64 R.xNet.xQuarrel.xOther, .int .i64 R.xNet.xQuarrel.xVowed]) rfl rfl Zr rfl (by kernel_rfl) (by kernel_rfl) ?_; intro wy XR O6)
    have K6 : Below w2.heap.size w2 wy := ((Below.refl _ _).alloc (Nat.le_refl _) _).trans (O6.toBelow (by simp) (by simp))
    replace XN := XN.keep K6
    replace rN := rN.below K6
    replace B := B.trans (K6.mono B.size)
    replace rM := rM.below K6
    replace rV := rV.below K6
    clear K6 O6 Zr
    generalize w2.heap.size = b6 at *
    by_cases hf : R.xCode = 0
    · as_aux_lemma =>
        obtain ⟨z0, hln, hqq⟩ := HT.out hf
        have hRe := HTI.out z0 ⟨hln, hqq⟩
        subst hRe
        obtain ⟨l, rfl⟩ := Int.eq_ofNat_of_zero_le hln.1
        obtain ⟨zt, zu, zl, zc⟩ := netC_zero z0
        have hl4 : l < 4 := by omega
        have hub : Hid (∀ j, j < 4 → 0 ≤ x.xUsed.getD j 0 ∧ x.xUsed.getD j 0 ≤ 99999) := fun j hj => (okN_iff _).1 ((listsB_iff x).1 zl).1 j (by rw [zu.1]; exact hj)
        have HU4 : Hid (x.xUsed.length = 4) := zu.1
        have KW := fun W h => impl_WordAt (.agg #[.slice p0 x.xTape.length c0]) x.xTape l (used x l) W h
        rw [wordR_in zt ⟨by omega, (used_ok z0 l hl4).1⟩] at KW
        have hq1 : 1 ≤ q := by omega
        have hq2 : q ≤ 256 := by omega
        have KM := fun v W => (lwMod_at q v W hq1 hq2).mono (R' := fun e w' => e = .returned (.int .i64 (v % q)) ∧ Below W.heap.size W w') (by rintro e w' ⟨rfl, rfl⟩; exact ⟨rfl, Below.refl _ _⟩)
        have HUS : Hid (used x l = x.xUsed.getD l 0) := by show x.xUsed.getD (l : Int).toNat 0 = _; rw [Int.toNat_natCast]
        have XN2 : Blk wy b3 46 #[.slice p0 x.xTape.length c0, .slice p1 4 c1, .int .i64 x.xSent, .slice p2 x.xHeard.length c2, .int .i64 x.xCheat.xWho, .int .i64 x.xCheat.xAt, .int .i64 x.xCheat.xBy, .bool x.xCheat.xCry, .bool x.xQuarrel.xSome, .int .i64 x.xQuarrel.xFrom, .int .i64 x.xQuarrel.xCheck, .int .i64 x.xQuarrel.xTo, .int .i64 x.xQuarrel.xTold, .int .i64 x.xQuarrel.xHeard, .int .i64 x.xQuarrel.xOther, .int .i64 x.xQuarrel.xVowed] := by rw [HU4.out] at XN; exact XN
        have HTK : Hid ((tookN x l).xUsed = x.xUsed.set l (x.xUsed.getD l 0 + 1)) := by show x.xUsed.set (l : Int).toNat (used x l + 1) = _; rw [Int.toNat_natCast, HUS.out]
        have HTL : Hid ((tookN x l).xUsed.length = 4) := by show _ = _; rw [HTK.out, List.length_set]; exact HU4.out
        generalize hvq : word x.xTape (l : Int) (used x l) = vv at *
        generalize hvq2 : vv % q = vq at *
        have HVQ : Hid (vv % q = vq) := hvq2
        have XR2 : Blk wy b6 50 #[.int .i64 0, .int .i64 vq, .slice q0 x.xTape.length d0, .slice q1 4 d1, .int .i64 x.xSent, .slice q2 x.xHeard.length d2, .int .i64 x.xCheat.xWho, .int .i64 x.xCheat.xAt, .int .i64 x.xCheat.xBy, .bool x.xCheat.xCry, .bool x.xQuarrel.xSome, .int .i64 x.xQuarrel.xFrom, .int .i64 x.xQuarrel.xCheck, .int .i64 x.xQuarrel.xTo, .int .i64 x.xQuarrel.xTold, .int .i64 x.xQuarrel.xHeard, .int .i64 x.xQuarrel.xOther, .int .i64 x.xQuarrel.xVowed] := by
          have h := XR
          dsimp only at h
          rw [HTL.out] at h
          exact h
        have rS : ReadsM wy (.slice q0 x.xTape.length d0) x.xTape := rM
        have rV2 : Reads wy .i64 (.slice q1 4 d1) (x.xUsed.set l (x.xUsed.getD l 0 + 1)) := by
          have h := rV
          dsimp only at h
          rw [HTL.out, HTK.out] at h
          exact h
        obtain ⟨e0, e1, e2, e3, e4, e5, hv, rT, rU, rH⟩ := rN
        simp only [Value.agg.injEq, Array.mk.injEq, List.cons.injEq, Value.slice.injEq] at hv
        obtain ⟨⟨rfl, -, rfl⟩, ⟨rfl, -, rfl⟩, -, ⟨rfl, -, rfl⟩, -⟩ := hv
        rw [HU4.out] at rU
        clear rH XN XR rM rV KRS HT HTI hf hvq hvq2 z0 zt zu zl zc
        obtain ⟨gu, ou, rfl, ltu, cu⟩ := rU.one l (by rw [HU4.out]; exact hl4)
        obtain ⟨gv, ov, rfl, ltv, cv⟩ := rV2.one l (by rw [List.length_set, HU4.out]; exact hl4)
        have HCU : Hid (∀ j, j < 4 → wy.cell? ⟨gu, ou + j, none⟩ = some (.int .i64 (x.xUsed.getD j 0))) := fun j hj => by
          obtain ⟨b9, o9, e9, -, c9⟩ := rU.one j (by rw [HU4.out]; exact hj)
          simp only [Option.some.injEq, Addr.mk.injEq] at e9
          obtain ⟨rfl, rfl, -⟩ := e9
          exact c9
        have HCV : Hid (∀ j, j < 4 → wy.cell? ⟨gv, ov + j, none⟩ = some (.int .i64 ((x.xUsed.set l (x.xUsed.getD l 0 + 1)).getD j 0))) := fun j hj => by
          obtain ⟨b9, o9, e9, -, c9⟩ := rV2.one j (by rw [List.length_set, HU4.out]; exact hj)
          simp only [Option.some.injEq, Addr.mk.injEq] at e9
          obtain ⟨rfl, rfl, -⟩ := e9
          exact c9
        have hcz : ((0 : Int) != 0) = false := by simp
        have hli : (l : Int) < 4 := by omega
        have hl0 : decide ((l : Int) < 0) = false := by simp
        have Na := XN2.at.1
        have Nl := XN2.lt
        have Ra := XR2.at.1
        have Rl := XR2.lt
        go_wp2_with fail
        go_loop [7, 8] (fun i _ => ∃ j : Nat, j ≤ 4 ∧ i = .int .i64 j) (fun i _ => 4 - (intOf i).toNat)
        case atStart => exact ⟨0, Nat.zero_le _, rfl⟩
        case round =>
          obtain ⟨j, hj, rfl⟩ := hrel
          by_cases hlt : j < 4
          · have hi : (j : Int) < 4 := by omega
            have c1 := HCU.out j hlt
            have c2 := HCV.out j hlt
            rw [getD_set_one _ _ _ _ (by rw [HU4.out]; exact hl4)] at c2
            have hbj := hub.out j hlt
            by_cases hjl : j = l
            · rw [if_pos hjl] at c2
              have ev : x.xUsed.getD j 0 = x.xUsed.getD l 0 := by rw [hjl]
              rw [ev] at c1 hbj
              have e1 : ((j : Int) == (l : Int)) = true := by simp; omega
              clear hjl ev
              generalize x.xUsed.getD l 0 = uj at c1 c2 hbj
              have e2 : (uj + 1 != uj + 1) = false := by simp
              go_wp2
              go_round
              case rel => exact ⟨j + 1, by omega, by go_num⟩
              case measure => simp [intOf]; omega
            · rw [if_neg hjl] at c2
              have e1 : ((j : Int) == (l : Int)) = false := by simp; omega
              generalize x.xUsed.getD j 0 = uj at c1 c2 hbj
              have e2 : (uj != uj) = false := by simp
              clear hjl
              go_wp2
              go_round
              case rel => exact ⟨j + 1, by omega, by go_num⟩
              case measure => simp [intOf]; omega
          · obtain rfl : j = 4 := by omega
            clear HCU HCV hub
            rw [← HUS.out] at cu
            have hsm : sameM x.xTape x.xTape = true := decide_eq_true rfl
            have e3 : (vq == vq) = true := by simp
            have e4 : (x.xSent == x.xSent) = true := by simp
            go_wp2_with fail
            clear Na Nl Ra Rl
            refine wp_region_held (S := fun V => (∀ o, V.cell? ⟨b3, o, none⟩ = (#[.slice p0 x.xTape.length c0, .slice (some ⟨gu, ou, none⟩) 4 c1, .int .i64 x.xSent, .slice p2 x.xHeard.length c2, .int .i64 x.xCheat.xWho, .int .i64 x.xCheat.xAt, .int .i64 x.xCheat.xBy, .bool x.xCheat.xCry, .bool x.xQuarrel.xSome, .int .i64 x.xQuarrel.xFrom, .int .i64 x.xQuarrel.xCheck, .int .i64 x.xQuarrel.xTo, .int .i64 x.xQuarrel.xTold, .int .i64 x.xQuarrel.xHeard, .int .i64 x.xQuarrel.xOther, .int .i64 x.xQuarrel.xVowed] : Array Value)[o]?) ∧ (∀ o, V.cell? ⟨b6, o, none⟩ = (#[.int .i64 0, .int .i64 vq, .slice q0 x.xTape.length d0, .slice (some ⟨gv, ov, none⟩) 4 d1, .int .i64 x.xSent, .slice q2 x.xHeard.length d2, .int .i64 x.xCheat.xWho, .int .i64 x.xCheat.xAt, .int .i64 x.xCheat.xBy, .bool x.xCheat.xCry, .bool x.xQuarrel.xSome, .int .i64 x.xQuarrel.xFrom, .int .i64 x.xQuarrel.xCheck, .int .i64 x.xQuarrel.xTo, .int .i64 x.xQuarrel.xTold, .int .i64 x.xQuarrel.xHeard, .int .i64 x.xQuarrel.xOther, .int .i64 x.xQuarrel.xVowed] : Array Value)[o]?) ∧ V.cell? ⟨gu, ou + l, none⟩ = some (.int .i64 (used x l))) (by kernel_rfl) ?_
            try (change wpAnyH _ _ _ _ _ _ _ _ (World.drew _))
            replace XN2 := XN2.drew
            replace XR2 := XR2.drew
            replace rT := rT.below (Below.refl _ _).drew
            replace rS := rS.below (Below.refl _ _).drew
            replace B := B.drew
            have hS : (∀ o, wy.drew.cell? ⟨b3, o, none⟩ = (#[.slice p0 x.xTape.length c0, .slice (some ⟨gu, ou, none⟩) 4 c1, .int .i64 x.xSent, .slice p2 x.xHeard.length c2, .int .i64 x.xCheat.xWho, .int .i64 x.xCheat.xAt, .int .i64 x.xCheat.xBy, .bool x.xCheat.xCry, .bool x.xQuarrel.xSome, .int .i64 x.xQuarrel.xFrom, .int .i64 x.xQuarrel.xCheck, .int .i64 x.xQuarrel.xTo, .int .i64 x.xQuarrel.xTold, .int .i64 x.xQuarrel.xHeard, .int .i64 x.xQuarrel.xOther, .int .i64 x.xQuarrel.xVowed] : Array Value)[o]?) ∧ (∀ o, wy.drew.cell? ⟨b6, o, none⟩ = (#[.int .i64 0, .int .i64 vq, .slice q0 x.xTape.length d0, .slice (some ⟨gv, ov, none⟩) 4 d1, .int .i64 x.xSent, .slice q2 x.xHeard.length d2, .int .i64 x.xCheat.xWho, .int .i64 x.xCheat.xAt, .int .i64 x.xCheat.xBy, .bool x.xCheat.xCry, .bool x.xQuarrel.xSome, .int .i64 x.xQuarrel.xFrom, .int .i64 x.xQuarrel.xCheck, .int .i64 x.xQuarrel.xTo, .int .i64 x.xQuarrel.xTold, .int .i64 x.xQuarrel.xHeard, .int .i64 x.xQuarrel.xOther, .int .i64 x.xQuarrel.xVowed] : Array Value)[o]?) ∧ wy.drew.cell? ⟨gu, ou + l, none⟩ = some (.int .i64 (used x l)) := ⟨XN2.at.1, XR2.at.1, cu⟩
            refine wpAnyH_take (i := 0) (v := ?vn185) rfl (by kernel_rfl) (by kernel_rfl) (by kernel_rfl) (fun _ _ _ h => h) (Or.inl ⟨by rfl, ?hn185⟩) hS ?rn185
            case hn185 => intro w' hSw; go_simp; (try with_reducible rfl)
            (try simp only [List.getElem_toArray]); (try simp only [List.getElem_cons_succ]); (try simp only [List.getElem_cons_zero]); (try simp only [Act.put]); (try simp only [List.setIfInBounds_toArray]); (try simp only [List.set_cons_succ]); (try simp only [List.set_cons_zero])
            refine wpAnyH_take (i := 1) (v := ?vn186) rfl (by kernel_rfl) (by kernel_rfl) (by kernel_rfl) (fun _ _ _ h => h) (Or.inl ⟨by rfl, ?hn186⟩) hS ?rn186
            case hn186 => intro w' hSw; go_simp; (try with_reducible rfl)
            (try simp only [List.getElem_toArray]); (try simp only [List.getElem_cons_succ]); (try simp only [List.getElem_cons_zero]); (try simp only [Act.put]); (try simp only [List.setIfInBounds_toArray]); (try simp only [List.set_cons_succ]); (try simp only [List.set_cons_zero])
            refine wpAnyH_take (i := 2) (v := ?vn187) rfl (by kernel_rfl) (by kernel_rfl) (by kernel_rfl) (fun _ _ _ h => h) (Or.inl ⟨by rfl, ?hn187⟩) hS ?rn187
            case hn187 => intro w' hSw; go_simp; (try with_reducible rfl)
            (try simp only [List.getElem_toArray]); (try simp only [List.getElem_cons_succ]); (try simp only [List.getElem_cons_zero]); (try simp only [Act.put]); (try simp only [List.setIfInBounds_toArray]); (try simp only [List.set_cons_succ]); (try simp only [List.set_cons_zero])
            refine wpAnyH_take (i := 3) (v := ?vn188) rfl (by kernel_rfl) (by kernel_rfl) (by kernel_rfl) (fun _ _ _ h => h) (Or.inl ⟨by rfl, ?hn188⟩) hS ?rn188
            case hn188 => intro w' hSw; go_simp; (try with_reducible rfl)
            (try simp only [List.getElem_toArray]); (try simp only [List.getElem_cons_succ]); (try simp only [List.getElem_cons_zero]); (try simp only [Act.put]); (try simp only [List.setIfInBounds_toArray]); (try simp only [List.set_cons_succ]); (try simp only [List.set_cons_zero])
            refine wpAnyH_take (i := 4) (v := ?vn189) rfl (by kernel_rfl) (by kernel_rfl) (by kernel_rfl) (fun _ _ _ h => h) (Or.inl ⟨by rfl, ?hn189⟩) hS ?rn189
            case hn189 => intro w' hSw; go_simp; (try with_reducible rfl)
            (try simp only [List.getElem_toArray]); (try simp only [List.getElem_cons_succ]); (try simp only [List.getElem_cons_zero]); (try simp only [Act.put]); (try simp only [List.setIfInBounds_toArray]); (try simp only [List.set_cons_succ]); (try simp only [List.set_cons_zero])
            refine wpAnyH_take (i := 5) (v := ?vn190) rfl (by kernel_rfl) (by kernel_rfl) (by kernel_rfl) (fun _ _ _ h => h) (Or.inl ⟨by rfl, ?hn190⟩) hS ?rn190
            case hn190 => intro w' hSw; go_simp; (try with_reducible rfl)
            (try simp only [List.getElem_toArray]); (try simp only [List.getElem_cons_succ]); (try simp only [List.getElem_cons_zero]); (try simp only [Act.put]); (try simp only [List.setIfInBounds_toArray]); (try simp only [List.set_cons_succ]); (try simp only [List.set_cons_zero])
            refine wpAnyH_take (i := 6) (v := ?vn191) rfl (by kernel_rfl) (by kernel_rfl) (by kernel_rfl) (fun _ _ _ h => h) (Or.inl ⟨by rfl, ?hn191⟩) hS ?rn191
            case hn191 => intro w' hSw; go_simp; (try with_reducible rfl)
            (try simp only [List.getElem_toArray]); (try simp only [List.getElem_cons_succ]); (try simp only [List.getElem_cons_zero]); (try simp only [Act.put]); (try simp only [List.setIfInBounds_toArray]); (try simp only [List.set_cons_succ]); (try simp only [List.set_cons_zero])
            refine wpAnyH_take (i := 7) (v := ?vn192) rfl (by kernel_rfl) (by kernel_rfl) (by kernel_rfl) (fun _ _ _ h => h) (Or.inl ⟨by rfl, ?hn192⟩) hS ?rn192
            case hn192 => intro w' hSw; go_simp; (try with_reducible rfl)
            (try simp only [List.getElem_toArray]); (try simp only [List.getElem_cons_succ]); (try simp only [List.getElem_cons_zero]); (try simp only [Act.put]); (try simp only [List.setIfInBounds_toArray]); (try simp only [List.set_cons_succ]); (try simp only [List.set_cons_zero])
            refine wpAnyH_take (i := 8) (v := ?vn193) rfl (by kernel_rfl) (by kernel_rfl) (by kernel_rfl) (fun _ _ _ h => h) (Or.inl ⟨by rfl, ?hn193⟩) hS ?rn193
            case hn193 => intro w' hSw; go_simp; (try with_reducible rfl)
            (try simp only [List.getElem_toArray]); (try simp only [List.getElem_cons_succ]); (try simp only [List.getElem_cons_zero]); (try simp only [Act.put]); (try simp only [List.setIfInBounds_toArray]); (try simp only [List.set_cons_succ]); (try simp only [List.set_cons_zero])
            refine wpAnyH_take (i := 9) (v := ?vn194) rfl (by kernel_rfl) (by kernel_rfl) (by kernel_rfl) (fun _ _ _ h => h) (Or.inl ⟨by rfl, ?hn194⟩) hS ?rn194
            case hn194 => intro w' hSw; go_simp; (try with_reducible rfl)
            (try simp only [List.getElem_toArray]); (try simp only [List.getElem_cons_succ]); (try simp only [List.getElem_cons_zero]); (try simp only [Act.put]); (try simp only [List.setIfInBounds_toArray]); (try simp only [List.set_cons_succ]); (try simp only [List.set_cons_zero])
            refine wpAnyH_take (i := 10) (v := ?vn195) rfl (by kernel_rfl) (by kernel_rfl) (by kernel_rfl) (fun _ _ _ h => h) (Or.inl ⟨by rfl, ?hn195⟩) hS ?rn195
            case hn195 => intro w' hSw; go_simp; (try with_reducible rfl)
            (try simp only [List.getElem_toArray]); (try simp only [List.getElem_cons_succ]); (try simp only [List.getElem_cons_zero]); (try simp only [Act.put]); (try simp only [List.setIfInBounds_toArray]); (try simp only [List.set_cons_succ]); (try simp only [List.set_cons_zero])
            refine wpAnyH_ready (rs := [11]) (by kernel_rfl) (by simp) ?_
            refine AllReadyH.cons (o := _) rfl (fun K hK => ?_) AllReadyH.nil
            rw [if_pos (by rfl)]
            go_simp
            go_at_call 33
            clear hS
            refine (KW _ ⟨_, _, rfl, rT⟩).mono ?_
            rintro e w8 ⟨uw, rfl, huw, k8⟩
            unfold RdIntResult at huw
            subst huw
            dsimp only
            replace cu := (k8.cell (p := ⟨gu, ou + l, none⟩) ltu).trans cu
            replace ltu := Nat.lt_of_lt_of_le ltu k8.size
            replace XN2 := XN2.keep k8
            replace XR2 := XR2.keep k8
            replace rT := rT.below k8
            replace rS := rS.below k8
            replace B := B.trans (k8.mono B.size)
            clear k8
            have hS : (∀ o, w8.cell? ⟨b3, o, none⟩ = (#[.slice p0 x.xTape.length c0, .slice (some ⟨gu, ou, none⟩) 4 c1, .int .i64 x.xSent, .slice p2 x.xHeard.length c2, .int .i64 x.xCheat.xWho, .int .i64 x.xCheat.xAt, .int .i64 x.xCheat.xBy, .bool x.xCheat.xCry, .bool x.xQuarrel.xSome, .int .i64 x.xQuarrel.xFrom, .int .i64 x.xQuarrel.xCheck, .int .i64 x.xQuarrel.xTo, .int .i64 x.xQuarrel.xTold, .int .i64 x.xQuarrel.xHeard, .int .i64 x.xQuarrel.xOther, .int .i64 x.xQuarrel.xVowed] : Array Value)[o]?) ∧ (∀ o, w8.cell? ⟨b6, o, none⟩ = (#[.int .i64 0, .int .i64 vq, .slice q0 x.xTape.length d0, .slice (some ⟨gv, ov, none⟩) 4 d1, .int .i64 x.xSent, .slice q2 x.xHeard.length d2, .int .i64 x.xCheat.xWho, .int .i64 x.xCheat.xAt, .int .i64 x.xCheat.xBy, .bool x.xCheat.xCry, .bool x.xQuarrel.xSome, .int .i64 x.xQuarrel.xFrom, .int .i64 x.xQuarrel.xCheck, .int .i64 x.xQuarrel.xTo, .int .i64 x.xQuarrel.xTold, .int .i64 x.xQuarrel.xHeard, .int .i64 x.xQuarrel.xOther, .int .i64 x.xQuarrel.xVowed] : Array Value)[o]?) ∧ w8.cell? ⟨gu, ou + l, none⟩ = some (.int .i64 (used x l)) := ⟨XN2.at.1, XR2.at.1, cu⟩
            refine hK.out _ _ hS (fun hS => ?_)
            clear hK K
            (try simp only [List.getElem_toArray]); (try simp only [List.getElem_cons_succ]); (try simp only [List.getElem_cons_zero]); (try simp only [Act.put]); (try simp only [List.setIfInBounds_toArray]); (try simp only [List.set_cons_succ]); (try simp only [List.set_cons_zero])
            refine wpAnyH_take (i := 12) (v := ?vn196) rfl (by kernel_rfl) (by kernel_rfl) (by kernel_rfl) (fun _ _ _ h => h) (Or.inl ⟨by rfl, ?hn196⟩) hS ?rn196
            case hn196 => intro w' hSw; go_simp; (try with_reducible rfl)
            (try simp only [List.getElem_toArray]); (try simp only [List.getElem_cons_succ]); (try simp only [List.getElem_cons_zero]); (try simp only [Act.put]); (try simp only [List.setIfInBounds_toArray]); (try simp only [List.set_cons_succ]); (try simp only [List.set_cons_zero])
            refine wpAnyH_ready (rs := [13]) (by kernel_rfl) (by simp) ?_
            refine AllReadyH.cons (o := _) rfl (fun K hK => ?_) AllReadyH.nil
            rw [if_pos (by rfl)]
            go_simp
            go_at_call 13
            clear hS
            refine (KM vv _).mono ?_
            rintro e w9 ⟨rfl, k9⟩
            rw [HVQ.out]
            replace cu := (k9.cell (p := ⟨gu, ou + l, none⟩) ltu).trans cu
            replace ltu := Nat.lt_of_lt_of_le ltu k9.size
            replace XN2 := XN2.keep k9
            replace XR2 := XR2.keep k9
            replace rT := rT.below k9
            replace rS := rS.below k9
            replace B := B.trans (k9.mono B.size)
            clear k9
            have hS : (∀ o, w9.cell? ⟨b3, o, none⟩ = (#[.slice p0 x.xTape.length c0, .slice (some ⟨gu, ou, none⟩) 4 c1, .int .i64 x.xSent, .slice p2 x.xHeard.length c2, .int .i64 x.xCheat.xWho, .int .i64 x.xCheat.xAt, .int .i64 x.xCheat.xBy, .bool x.xCheat.xCry, .bool x.xQuarrel.xSome, .int .i64 x.xQuarrel.xFrom, .int .i64 x.xQuarrel.xCheck, .int .i64 x.xQuarrel.xTo, .int .i64 x.xQuarrel.xTold, .int .i64 x.xQuarrel.xHeard, .int .i64 x.xQuarrel.xOther, .int .i64 x.xQuarrel.xVowed] : Array Value)[o]?) ∧ (∀ o, w9.cell? ⟨b6, o, none⟩ = (#[.int .i64 0, .int .i64 vq, .slice q0 x.xTape.length d0, .slice (some ⟨gv, ov, none⟩) 4 d1, .int .i64 x.xSent, .slice q2 x.xHeard.length d2, .int .i64 x.xCheat.xWho, .int .i64 x.xCheat.xAt, .int .i64 x.xCheat.xBy, .bool x.xCheat.xCry, .bool x.xQuarrel.xSome, .int .i64 x.xQuarrel.xFrom, .int .i64 x.xQuarrel.xCheck, .int .i64 x.xQuarrel.xTo, .int .i64 x.xQuarrel.xTold, .int .i64 x.xQuarrel.xHeard, .int .i64 x.xQuarrel.xOther, .int .i64 x.xQuarrel.xVowed] : Array Value)[o]?) ∧ w9.cell? ⟨gu, ou + l, none⟩ = some (.int .i64 (used x l)) := ⟨XN2.at.1, XR2.at.1, cu⟩
            refine hK.out _ _ hS (fun hS => ?_)
            clear hK K
            (try simp only [List.getElem_toArray]); (try simp only [List.getElem_cons_succ]); (try simp only [List.getElem_cons_zero]); (try simp only [Act.put]); (try simp only [List.setIfInBounds_toArray]); (try simp only [List.set_cons_succ]); (try simp only [List.set_cons_zero])
            refine wpAnyH_take (i := 14) (v := ?vn197) rfl (by kernel_rfl) (by kernel_rfl) (by kernel_rfl) (fun _ _ _ h => h) (Or.inl ⟨by rfl, ?hn197⟩) hS ?rn197
            case hn197 => intro w' hSw; go_simp; (try with_reducible rfl)
            (try simp only [List.getElem_toArray]); (try simp only [List.getElem_cons_succ]); (try simp only [List.getElem_cons_zero]); (try simp only [Act.put]); (try simp only [List.setIfInBounds_toArray]); (try simp only [List.set_cons_succ]); (try simp only [List.set_cons_zero])
            refine wpAnyH_take (i := 15) (v := ?vn198) rfl (by kernel_rfl) (by kernel_rfl) (by kernel_rfl) (fun _ _ _ h => h) (Or.inl ⟨by rfl, ?hn198⟩) hS ?rn198
            case hn198 => intro w' hSw; go_simp; (try with_reducible rfl)
            (try simp only [List.getElem_toArray]); (try simp only [List.getElem_cons_succ]); (try simp only [List.getElem_cons_zero]); (try simp only [Act.put]); (try simp only [List.setIfInBounds_toArray]); (try simp only [List.set_cons_succ]); (try simp only [List.set_cons_zero])
            refine wpAnyH_take (i := 16) (v := ?vn199) rfl (by kernel_rfl) (by kernel_rfl) (by kernel_rfl) (fun _ _ _ h => h) (Or.inl ⟨by rfl, ?hn199⟩) hS ?rn199
            case hn199 => intro w' hSw; go_simp; (try with_reducible rfl)
            (try simp only [List.getElem_toArray]); (try simp only [List.getElem_cons_succ]); (try simp only [List.getElem_cons_zero]); (try simp only [Act.put]); (try simp only [List.setIfInBounds_toArray]); (try simp only [List.set_cons_succ]); (try simp only [List.set_cons_zero])
            refine wpAnyH_take (i := 17) (v := ?vn200) rfl (by kernel_rfl) (by kernel_rfl) (by kernel_rfl) (fun _ _ _ h => h) (Or.inl ⟨by rfl, ?hn200⟩) hS ?rn200
            case hn200 => intro w' hSw; go_simp; (try with_reducible rfl)
            (try simp only [List.getElem_toArray]); (try simp only [List.getElem_cons_succ]); (try simp only [List.getElem_cons_zero]); (try simp only [Act.put]); (try simp only [List.setIfInBounds_toArray]); (try simp only [List.set_cons_succ]); (try simp only [List.set_cons_zero])
            refine wpAnyH_take (i := 18) (v := ?vn201) rfl (by kernel_rfl) (by kernel_rfl) (by kernel_rfl) (fun _ _ _ h => h) (Or.inl ⟨by rfl, ?hn201⟩) hS ?rn201
            case hn201 => intro w' hSw; go_simp; (try with_reducible rfl)
            (try simp only [List.getElem_toArray]); (try simp only [List.getElem_cons_succ]); (try simp only [List.getElem_cons_zero]); (try simp only [Act.put]); (try simp only [List.setIfInBounds_toArray]); (try simp only [List.set_cons_succ]); (try simp only [List.set_cons_zero])
            refine wpAnyH_take (i := 19) (v := ?vn202) rfl (by kernel_rfl) (by kernel_rfl) (by kernel_rfl) (fun _ _ _ h => h) (Or.inl ⟨by rfl, ?hn202⟩) hS ?rn202
            case hn202 => intro w' hSw; go_simp; (try with_reducible rfl)
            (try simp only [List.getElem_toArray]); (try simp only [List.getElem_cons_succ]); (try simp only [List.getElem_cons_zero]); (try simp only [Act.put]); (try simp only [List.setIfInBounds_toArray]); (try simp only [List.set_cons_succ]); (try simp only [List.set_cons_zero])
            refine wpAnyH_take (i := 20) (v := ?vn203) rfl (by kernel_rfl) (by kernel_rfl) (by kernel_rfl) (fun _ _ _ h => h) (Or.inl ⟨by rfl, ?hn203⟩) hS ?rn203
            case hn203 => intro w' hSw; go_simp; (try with_reducible rfl)
            (try simp only [List.getElem_toArray]); (try simp only [List.getElem_cons_succ]); (try simp only [List.getElem_cons_zero]); (try simp only [Act.put]); (try simp only [List.setIfInBounds_toArray]); (try simp only [List.set_cons_succ]); (try simp only [List.set_cons_zero])
            refine wpAnyH_ready (rs := [21]) (by kernel_rfl) (by simp) ?_
            refine AllReadyH.cons (o := _) rfl (fun K hK => ?_) AllReadyH.nil
            rw [if_pos (by rfl)]
            go_simp
            go_at_call 34
            clear hS
            refine (impl_SameTapes _ _ x.xTape x.xTape _ ⟨_, _, rfl, rS⟩ ⟨_, _, rfl, rT⟩).mono ?_
            rintro e w10 ⟨e9, k10⟩
            rw [hsm] at e9
            subst e9
            replace cu := (k10.cell (p := ⟨gu, ou + l, none⟩) ltu).trans cu
            replace ltu := Nat.lt_of_lt_of_le ltu k10.size
            replace XN2 := XN2.keep k10
            replace XR2 := XR2.keep k10
            replace rT := rT.below k10
            replace rS := rS.below k10
            replace B := B.trans (k10.mono B.size)
            clear k10
            have hS : (∀ o, w10.cell? ⟨b3, o, none⟩ = (#[.slice p0 x.xTape.length c0, .slice (some ⟨gu, ou, none⟩) 4 c1, .int .i64 x.xSent, .slice p2 x.xHeard.length c2, .int .i64 x.xCheat.xWho, .int .i64 x.xCheat.xAt, .int .i64 x.xCheat.xBy, .bool x.xCheat.xCry, .bool x.xQuarrel.xSome, .int .i64 x.xQuarrel.xFrom, .int .i64 x.xQuarrel.xCheck, .int .i64 x.xQuarrel.xTo, .int .i64 x.xQuarrel.xTold, .int .i64 x.xQuarrel.xHeard, .int .i64 x.xQuarrel.xOther, .int .i64 x.xQuarrel.xVowed] : Array Value)[o]?) ∧ (∀ o, w10.cell? ⟨b6, o, none⟩ = (#[.int .i64 0, .int .i64 vq, .slice q0 x.xTape.length d0, .slice (some ⟨gv, ov, none⟩) 4 d1, .int .i64 x.xSent, .slice q2 x.xHeard.length d2, .int .i64 x.xCheat.xWho, .int .i64 x.xCheat.xAt, .int .i64 x.xCheat.xBy, .bool x.xCheat.xCry, .bool x.xQuarrel.xSome, .int .i64 x.xQuarrel.xFrom, .int .i64 x.xQuarrel.xCheck, .int .i64 x.xQuarrel.xTo, .int .i64 x.xQuarrel.xTold, .int .i64 x.xQuarrel.xHeard, .int .i64 x.xQuarrel.xOther, .int .i64 x.xQuarrel.xVowed] : Array Value)[o]?) ∧ w10.cell? ⟨gu, ou + l, none⟩ = some (.int .i64 (used x l)) := ⟨XN2.at.1, XR2.at.1, cu⟩
            refine hK.out _ _ hS (fun hS => ?_)
            clear hK K
            (try simp only [List.getElem_toArray]); (try simp only [List.getElem_cons_succ]); (try simp only [List.getElem_cons_zero]); (try simp only [Act.put]); (try simp only [List.setIfInBounds_toArray]); (try simp only [List.set_cons_succ]); (try simp only [List.set_cons_zero])
            refine wpAnyH_take (i := 22) (v := ?vn204) rfl (by kernel_rfl) (by kernel_rfl) (by kernel_rfl) (fun _ _ _ h => h) (Or.inl ⟨by rfl, ?hn204⟩) hS ?rn204
            case hn204 => intro w' hSw; go_simp; (try with_reducible rfl)
            (try simp only [List.getElem_toArray]); (try simp only [List.getElem_cons_succ]); (try simp only [List.getElem_cons_zero]); (try simp only [Act.put]); (try simp only [List.setIfInBounds_toArray]); (try simp only [List.set_cons_succ]); (try simp only [List.set_cons_zero])
            refine wpAnyH_take (i := 23) (v := ?vn205) rfl (by kernel_rfl) (by kernel_rfl) (by kernel_rfl) (fun _ _ _ h => h) (Or.inl ⟨by rfl, ?hn205⟩) hS ?rn205
            case hn205 => intro w' hSw; go_simp; (try with_reducible rfl)
            (try simp only [List.getElem_toArray]); (try simp only [List.getElem_cons_succ]); (try simp only [List.getElem_cons_zero]); (try simp only [Act.put]); (try simp only [List.setIfInBounds_toArray]); (try simp only [List.set_cons_succ]); (try simp only [List.set_cons_zero])
            refine wpAnyH_take (i := 24) (v := ?vn206) rfl (by kernel_rfl) (by kernel_rfl) (by kernel_rfl) (fun _ _ _ h => h) (Or.inl ⟨by rfl, ?hn206⟩) hS ?rn206
            case hn206 => intro w' hSw; go_simp; (try with_reducible rfl)
            (try simp only [List.getElem_toArray]); (try simp only [List.getElem_cons_succ]); (try simp only [List.getElem_cons_zero]); (try simp only [Act.put]); (try simp only [List.setIfInBounds_toArray]); (try simp only [List.set_cons_succ]); (try simp only [List.set_cons_zero])
            refine wpAnyH_take (i := 25) (v := ?vn207) rfl (by kernel_rfl) (by kernel_rfl) (by kernel_rfl) (fun _ _ _ h => h) (Or.inl ⟨by rfl, ?hn207⟩) hS ?rn207
            case hn207 => intro w' hSw; go_simp; (try with_reducible rfl)
            (try simp only [List.getElem_toArray]); (try simp only [List.getElem_cons_succ]); (try simp only [List.getElem_cons_zero]); (try simp only [Act.put]); (try simp only [List.setIfInBounds_toArray]); (try simp only [List.set_cons_succ]); (try simp only [List.set_cons_zero])
            refine wpAnyH_take (i := 26) (v := ?vn208) rfl (by kernel_rfl) (by kernel_rfl) (by kernel_rfl) (fun _ _ _ h => h) (Or.inl ⟨by rfl, ?hn208⟩) hS ?rn208
            case hn208 => intro w' hSw; go_simp; (try with_reducible rfl)
            (try simp only [List.getElem_toArray]); (try simp only [List.getElem_cons_succ]); (try simp only [List.getElem_cons_zero]); (try simp only [Act.put]); (try simp only [List.setIfInBounds_toArray]); (try simp only [List.set_cons_succ]); (try simp only [List.set_cons_zero])
            refine wpAnyH_take (i := 27) (v := ?vn209) rfl (by kernel_rfl) (by kernel_rfl) (by kernel_rfl) (fun _ _ _ h => h) (Or.inl ⟨by rfl, ?hn209⟩) hS ?rn209
            case hn209 => intro w' hSw; go_simp; (try with_reducible rfl)
            (try simp only [List.getElem_toArray]); (try simp only [List.getElem_cons_succ]); (try simp only [List.getElem_cons_zero]); (try simp only [Act.put]); (try simp only [List.setIfInBounds_toArray]); (try simp only [List.set_cons_succ]); (try simp only [List.set_cons_zero])
            refine wpAnyH_take (i := 28) (v := ?vn210) rfl (by kernel_rfl) (by kernel_rfl) (by kernel_rfl) (fun _ _ _ h => h) (Or.inl ⟨by rfl, ?hn210⟩) hS ?rn210
            case hn210 => intro w' hSw; go_simp; (try with_reducible rfl)
            (try simp only [List.getElem_toArray]); (try simp only [List.getElem_cons_succ]); (try simp only [List.getElem_cons_zero]); (try simp only [Act.put]); (try simp only [List.setIfInBounds_toArray]); (try simp only [List.set_cons_succ]); (try simp only [List.set_cons_zero])
            refine wpAnyH_take (i := 29) (v := ?vn211) rfl (by kernel_rfl) (by kernel_rfl) (by kernel_rfl) (fun _ _ _ h => h) (Or.inl ⟨by rfl, ?hn211⟩) hS ?rn211
            case hn211 => intro w' hSw; go_simp; (try with_reducible rfl)
            (try simp only [List.getElem_toArray]); (try simp only [List.getElem_cons_succ]); (try simp only [List.getElem_cons_zero]); (try simp only [Act.put]); (try simp only [List.setIfInBounds_toArray]); (try simp only [List.set_cons_succ]); (try simp only [List.set_cons_zero])
            refine wpAnyH_take (i := 30) (v := ?vn212) rfl (by kernel_rfl) (by kernel_rfl) (by kernel_rfl) (fun _ _ _ h => h) (Or.inl ⟨by rfl, ?hn212⟩) hS ?rn212
            case hn212 => intro w' hSw; go_simp; (try with_reducible rfl)
            (try simp only [List.getElem_toArray]); (try simp only [List.getElem_cons_succ]); (try simp only [List.getElem_cons_zero]); (try simp only [Act.put]); (try simp only [List.setIfInBounds_toArray]); (try simp only [List.set_cons_succ]); (try simp only [List.set_cons_zero])
            refine wpAnyH_take (i := 31) (v := ?vn213) rfl (by kernel_rfl) (by kernel_rfl) (by kernel_rfl) (fun _ _ _ h => h) (Or.inl ⟨by rfl, ?hn213⟩) hS ?rn213
            case hn213 => intro w' hSw; go_simp; (try with_reducible rfl)
            (try simp only [List.getElem_toArray]); (try simp only [List.getElem_cons_succ]); (try simp only [List.getElem_cons_zero]); (try simp only [Act.put]); (try simp only [List.setIfInBounds_toArray]); (try simp only [List.set_cons_succ]); (try simp only [List.set_cons_zero])
            refine wpAnyH_done (by kernel_rfl) ?_ _
            clear hS
            go_wp2
            go_ret
            exact ⟨rfl, B⟩
    · as_aux_lemma =>
        have ef : (R.xCode != 0) = true := by simpa using hf
        have eq : (R.xCode == R.xCode) = true := by simp
        clear hf HT HTI rM rV
        have XRa := XR.at.1
        have XRl := XR.lt
        go_wp2_with fail
        clear XRa XRl
        refine wp_region_held (S := fun V => (∀ o, V.cell? ⟨b3, o, none⟩ = (#[.slice p0 x.xTape.length c0, .slice p1 x.xUsed.length c1, .int .i64 x.xSent, .slice p2 x.xHeard.length c2, .int .i64 x.xCheat.xWho, .int .i64 x.xCheat.xAt, .int .i64 x.xCheat.xBy, .bool x.xCheat.xCry, .bool x.xQuarrel.xSome, .int .i64 x.xQuarrel.xFrom, .int .i64 x.xQuarrel.xCheck, .int .i64 x.xQuarrel.xTo, .int .i64 x.xQuarrel.xTold, .int .i64 x.xQuarrel.xHeard, .int .i64 x.xQuarrel.xOther, .int .i64 x.xQuarrel.xVowed] : Array Value)[o]?) ∧ (∀ o, V.cell? ⟨b6, o, none⟩ = (#[.int .i64 R.xCode, .int .i64 R.xValue, .slice q0 R.xNet.xTape.length d0, .slice q1 R.xNet.xUsed.length d1, .int .i64 R.xNet.xSent, .slice q2 R.xNet.xHeard.length d2, .int .i64 R.xNet.xCheat.xWho, .int .i64 R.xNet.xCheat.xAt, .int .i64 R.xNet.xCheat.xBy, .bool R.xNet.xCheat.xCry, .bool R.xNet.xQuarrel.xSome, .int .i64 R.xNet.xQuarrel.xFrom, .int .i64 R.xNet.xQuarrel.xCheck, .int .i64 R.xNet.xQuarrel.xTo, .int .i64 R.xNet.xQuarrel.xTold, .int .i64 R.xNet.xQuarrel.xHeard, .int .i64 R.xNet.xQuarrel.xOther, .int .i64 R.xNet.xQuarrel.xVowed] : Array Value)[o]?)) (by kernel_rfl) ?_
        try (change wpAnyH _ _ _ _ _ _ _ _ (World.drew _))
        replace XN := XN.drew
        replace XR := XR.drew
        replace rN := rN.below (Below.refl _ _).drew
        replace B := B.drew
        have hS : (∀ o, wy.drew.cell? ⟨b3, o, none⟩ = (#[.slice p0 x.xTape.length c0, .slice p1 x.xUsed.length c1, .int .i64 x.xSent, .slice p2 x.xHeard.length c2, .int .i64 x.xCheat.xWho, .int .i64 x.xCheat.xAt, .int .i64 x.xCheat.xBy, .bool x.xCheat.xCry, .bool x.xQuarrel.xSome, .int .i64 x.xQuarrel.xFrom, .int .i64 x.xQuarrel.xCheck, .int .i64 x.xQuarrel.xTo, .int .i64 x.xQuarrel.xTold, .int .i64 x.xQuarrel.xHeard, .int .i64 x.xQuarrel.xOther, .int .i64 x.xQuarrel.xVowed] : Array Value)[o]?) ∧ (∀ o, wy.drew.cell? ⟨b6, o, none⟩ = (#[.int .i64 R.xCode, .int .i64 R.xValue, .slice q0 R.xNet.xTape.length d0, .slice q1 R.xNet.xUsed.length d1, .int .i64 R.xNet.xSent, .slice q2 R.xNet.xHeard.length d2, .int .i64 R.xNet.xCheat.xWho, .int .i64 R.xNet.xCheat.xAt, .int .i64 R.xNet.xCheat.xBy, .bool R.xNet.xCheat.xCry, .bool R.xNet.xQuarrel.xSome, .int .i64 R.xNet.xQuarrel.xFrom, .int .i64 R.xNet.xQuarrel.xCheck, .int .i64 R.xNet.xQuarrel.xTo, .int .i64 R.xNet.xQuarrel.xTold, .int .i64 R.xNet.xQuarrel.xHeard, .int .i64 R.xNet.xQuarrel.xOther, .int .i64 R.xNet.xQuarrel.xVowed] : Array Value)[o]?) := ⟨XN.at.1, XR.at.1⟩
        refine wpAnyH_take (i := 0) (v := ?vn214) rfl (by kernel_rfl) (by kernel_rfl) (by kernel_rfl) (fun _ _ _ h => h) (Or.inl ⟨by rfl, ?hn214⟩) hS ?rn214
        case hn214 => intro w' hSw; go_simp; (try with_reducible rfl)
        (try simp only [List.getElem_toArray]); (try simp only [List.getElem_cons_succ]); (try simp only [List.getElem_cons_zero]); (try simp only [Act.put]); (try simp only [List.setIfInBounds_toArray]); (try simp only [List.set_cons_succ]); (try simp only [List.set_cons_zero])
        refine wpAnyH_take (i := 1) (v := ?vn215) rfl (by kernel_rfl) (by kernel_rfl) (by kernel_rfl) (fun _ _ _ h => h) (Or.inl ⟨by rfl, ?hn215⟩) hS ?rn215
        case hn215 => intro w' hSw; go_simp; (try with_reducible rfl)
        (try simp only [List.getElem_toArray]); (try simp only [List.getElem_cons_succ]); (try simp only [List.getElem_cons_zero]); (try simp only [Act.put]); (try simp only [List.setIfInBounds_toArray]); (try simp only [List.set_cons_succ]); (try simp only [List.set_cons_zero])
        refine wpAnyH_take (i := 2) (v := ?vn216) rfl (by kernel_rfl) (by kernel_rfl) (by kernel_rfl) (fun _ _ _ h => h) (Or.inl ⟨by rfl, ?hn216⟩) hS ?rn216
        case hn216 => intro w' hSw; go_simp; (try with_reducible rfl)
        (try simp only [List.getElem_toArray]); (try simp only [List.getElem_cons_succ]); (try simp only [List.getElem_cons_zero]); (try simp only [Act.put]); (try simp only [List.setIfInBounds_toArray]); (try simp only [List.set_cons_succ]); (try simp only [List.set_cons_zero])
        refine wpAnyH_take (i := 5) (v := ?vn217) rfl (by kernel_rfl) (by kernel_rfl) (by kernel_rfl) (fun _ _ _ h => h) (Or.inl ⟨by rfl, ?hn217⟩) hS ?rn217
        case hn217 => intro w' hSw; go_simp; (try with_reducible rfl)
        (try simp only [List.getElem_toArray]); (try simp only [List.getElem_cons_succ]); (try simp only [List.getElem_cons_zero]); (try simp only [Act.put]); (try simp only [List.setIfInBounds_toArray]); (try simp only [List.set_cons_succ]); (try simp only [List.set_cons_zero])
        refine wpAnyH_take (i := 6) (v := ?vn218) rfl (by kernel_rfl) (by kernel_rfl) (by kernel_rfl) (fun _ _ _ h => h) (Or.inl ⟨by rfl, ?hn218⟩) hS ?rn218
        case hn218 => intro w' hSw; go_simp; (try with_reducible rfl)
        (try simp only [List.getElem_toArray]); (try simp only [List.getElem_cons_succ]); (try simp only [List.getElem_cons_zero]); (try simp only [Act.put]); (try simp only [List.setIfInBounds_toArray]); (try simp only [List.set_cons_succ]); (try simp only [List.set_cons_zero])
        refine wpAnyH_ready (rs := [3]) (by kernel_rfl) (by simp) ?_
        refine AllReadyH.cons (o := _) rfl (fun K hK => ?_) AllReadyH.nil
        rw [if_pos (by rfl)]
        go_simp
        go_at_call 32
        clear hS
        refine (KRS _ rN).mono ?_
        rintro e w11 ⟨u9, bc0, bc1, bc2, rfl, ON9, -, -, -, k11⟩
        obtain ⟨s0, t0, s1, t1, s2, t2, rfl, n0, n1, n2, -⟩ := ON9
        clear n0 n1 n2
        replace XN := XN.keep k11
        replace XR := XR.keep k11
        replace rN := rN.below k11
        replace B := B.trans (k11.mono B.size)
        clear k11
        have hS : (∀ o, w11.cell? ⟨b3, o, none⟩ = (#[.slice p0 x.xTape.length c0, .slice p1 x.xUsed.length c1, .int .i64 x.xSent, .slice p2 x.xHeard.length c2, .int .i64 x.xCheat.xWho, .int .i64 x.xCheat.xAt, .int .i64 x.xCheat.xBy, .bool x.xCheat.xCry, .bool x.xQuarrel.xSome, .int .i64 x.xQuarrel.xFrom, .int .i64 x.xQuarrel.xCheck, .int .i64 x.xQuarrel.xTo, .int .i64 x.xQuarrel.xTold, .int .i64 x.xQuarrel.xHeard, .int .i64 x.xQuarrel.xOther, .int .i64 x.xQuarrel.xVowed] : Array Value)[o]?) ∧ (∀ o, w11.cell? ⟨b6, o, none⟩ = (#[.int .i64 R.xCode, .int .i64 R.xValue, .slice q0 R.xNet.xTape.length d0, .slice q1 R.xNet.xUsed.length d1, .int .i64 R.xNet.xSent, .slice q2 R.xNet.xHeard.length d2, .int .i64 R.xNet.xCheat.xWho, .int .i64 R.xNet.xCheat.xAt, .int .i64 R.xNet.xCheat.xBy, .bool R.xNet.xCheat.xCry, .bool R.xNet.xQuarrel.xSome, .int .i64 R.xNet.xQuarrel.xFrom, .int .i64 R.xNet.xQuarrel.xCheck, .int .i64 R.xNet.xQuarrel.xTo, .int .i64 R.xNet.xQuarrel.xTold, .int .i64 R.xNet.xQuarrel.xHeard, .int .i64 R.xNet.xQuarrel.xOther, .int .i64 R.xNet.xQuarrel.xVowed] : Array Value)[o]?) := ⟨XN.at.1, XR.at.1⟩
        refine hK.out _ _ hS (fun hS => ?_)
        clear hK K
        (try simp only [List.getElem_toArray]); (try simp only [List.getElem_cons_succ]); (try simp only [List.getElem_cons_zero]); (try simp only [Act.put]); (try simp only [List.setIfInBounds_toArray]); (try simp only [List.set_cons_succ]); (try simp only [List.set_cons_zero])
        refine wpAnyH_take (i := 4) (v := ?vn219) rfl (by kernel_rfl) (by kernel_rfl) (by kernel_rfl) (fun _ _ _ h => h) (Or.inl ⟨by rfl, ?hn219⟩) hS ?rn219
        case hn219 => intro w' hSw; go_simp; (try with_reducible rfl)
        (try simp only [List.getElem_toArray]); (try simp only [List.getElem_cons_succ]); (try simp only [List.getElem_cons_zero]); (try simp only [Act.put]); (try simp only [List.setIfInBounds_toArray]); (try simp only [List.set_cons_succ]); (try simp only [List.set_cons_zero])
        refine wpAnyH_take (i := 7) (v := ?vn220) rfl (by kernel_rfl) (by kernel_rfl) (by kernel_rfl) (fun _ _ _ h => h) (Or.inl ⟨by rfl, ?hn220⟩) hS ?rn220
        case hn220 => intro w' hSw; go_simp; (try with_reducible rfl)
        (try simp only [List.getElem_toArray]); (try simp only [List.getElem_cons_succ]); (try simp only [List.getElem_cons_zero]); (try simp only [Act.put]); (try simp only [List.setIfInBounds_toArray]); (try simp only [List.set_cons_succ]); (try simp only [List.set_cons_zero])
        refine wpAnyH_take (i := 8) (v := ?vn221) rfl (by kernel_rfl) (by kernel_rfl) (by kernel_rfl) (fun _ _ _ h => h) (Or.inl ⟨by rfl, ?hn221⟩) hS ?rn221
        case hn221 => intro w' hSw; go_simp; (try with_reducible rfl)
        (try simp only [List.getElem_toArray]); (try simp only [List.getElem_cons_succ]); (try simp only [List.getElem_cons_zero]); (try simp only [Act.put]); (try simp only [List.setIfInBounds_toArray]); (try simp only [List.set_cons_succ]); (try simp only [List.set_cons_zero])
        refine wpAnyH_done (by kernel_rfl) ?_ _
        clear hS
        go_wp2
        go_ret
        exact ⟨rfl, B⟩

/-! the row's step -/
set_option maxRecDepth 100000 in
theorem lifted (os : Os) (started : os.Started) (H : Type) (enc : TypeId × Value → H) :
    ReturnsInHanded {} Try.checked os 6 .any (Rows.fnWordsSpec.pre6 enc Try.prog Try.f6 Rows.fnWordsRow.domain false) (Rows.fnWordsSpec.post enc Try.prog Try.f6 false true false false) := by
  refine returnsInHanded_of_change (C := Try.checked) own started (by kernel_rfl) Try.func6
    (ChangeSpec.witness6 (enc := enc) (C := Try.checked) false ⟨#[], #[.slice none 0 0], []⟩ 8 (by kernel_rfl) (by kernel_rfl) (by kernel_rfl) (by kernel_rfl)) ?_
  intro W base args ds gs before hval0 hW hcnd _
  have hval : ∀ (j : Nat) t v, Try.f6.params[j]? = some t → args[j]? = some v → Value.okWide Try.prog W .any base t v := hval0
  have hW' := hW
  obtain ⟨p, q, hA0, hV, rfl, hfz, hnd⟩ := hW
  have hA : DataW.TrodAll enc Try.prog W 0 (fun _ => true) true Try.f6.params.toList args.toList ds p := hA0
  rw [Try.params6] at hA hval
  obtain ⟨v0, vs0, d0, ds0, p0, q0, hargs, rfl, rfl, h0, r0⟩ := trodAll_cons hA
  obtain ⟨rfl, rfl, rfl⟩ := trodAll_nil r0
  obtain rfl : args = #[v0] := by cases args; simp_all
  obtain ⟨rfl, rfl⟩ := trodVars_none hV
  obtain ⟨a0, len0, cap0, rfl⟩ := okWide_slice Try.underlying22 (hval 0 22 v0 rfl rfl)
  have k0 := h0
  have lt0 : ∀ x ∈ p0, x.block < W.heap.size := by obtain ⟨m, hm⟩ := k0; exact DataW.trod_lt m _ _ _ hm
  obtain ⟨z0, w0⟩ : ∃ zs, IsRow .u8 W a0 len0 cap0 zs := by
    obtain ⟨fuel, hf⟩ := h0
    rcases open_ints Try.underlying22 Try.underlying5 (by kernel_rfl) hf with ⟨hcs, _⟩ | ⟨x, l, c, zs, hcs, _, hl, hm, hz, _, hcell, hwz⟩
    · simp [Value.cells] at hcs
      obtain ⟨rfl, rfl, rfl⟩ := hcs
      exact ⟨[], .inl ⟨rfl, rfl, rfl, rfl⟩⟩
    · simp [Value.cells] at hcs
      obtain ⟨rfl, rfl, rfl⟩ := hcs
      exact ⟨zs, .inr ⟨_, rfl, hl, hm, by simpa using hz, hcell, hwz⟩⟩
  clear hA0 hval0
  refine (walk a0 len0 cap0 z0 W w0).mono fun e W' ⟨he, bel⟩ => ?_
  subst he
  exact ⟨_, rfl, _, _, _, [], _, [], hW', trodAll_mk1 (shut_bool Try.underlying4 _), (trodAll_cons_mk (Below.trod laidOut (by kernel_rfl) (of_decide_eq_true (by kernel_rfl)) k0 bel lt0) trodAll_mk0), rfl, bel.frame _, fun h => by cases h⟩

theorem over : Rows.fnWordsRow.holds Try.pinned (OpenSpec.ofChange Rows.fnWordsSpec) :=
  OpenClaim.holds_of_wide 6 Try.f6 rfl rfl rfl rfl rfl rfl rfl ⟨rfl, rfl, rfl, rfl, rfl⟩ rfl rfl rfl rfl rfl (by kernel_rfl) Try.func6 (by kernel_rfl)
    (of_decide_eq_true (by kernel_rfl)) (by unfold Func.isWrapper; first | (rw [if_pos (by decide +kernel)]; kernel_rfl) | (rw [if_neg (by decide +kernel)]; exact ⟨rfl, rfl⟩))
    (fun os started H enc _ => lifted os started H enc)

end Go.Proofs.Ytadppilldijijab.fnWords
namespace Go.Proofs.Ytadppilldijijab
theorem fnWords_holds : Rows.FnWordsSaid := fnWords.over
#print axioms fnWords_holds
end Go.Proofs.Ytadppilldijijab
