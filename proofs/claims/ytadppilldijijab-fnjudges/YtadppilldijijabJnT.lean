/-
  Contracts of chapter 4: who is trusted: in the program and in its model.
-/
import Derived.Test.YtadppilldijijabJnR
namespace Go.Proofs.Ytadppilldijijab
open Go.ChangeShapes Go.WideShapes Go.ChangeAt Go.RowKit
set_option linter.unusedVariables false

theorem trustR_no {z : MQuarrel} (h : (judgeR z).xCode ≠ 0) : trustR z = ⟨(judgeR z).xCode, 0⟩ := if_neg h
theorem judgeR_some {z : MQuarrel} (h : (judgeR z).xCode = 0) : z.xSome = true ∧ Three z.xFrom z.xCheck z.xTo := by
  by_cases h0 : z.xSome = true
  · by_cases h1 : Three z.xFrom z.xCheck z.xTo
    · exact ⟨h0, h1⟩
    · rw [judgeR_out h0 h1] at h; cases h
  · rw [judgeR_none h0] at h; cases h
theorem judgeR_pair {z : MQuarrel} (h : (judgeR z).xCode = 0) : (judgeR z).xFirst = mn (qA z) (qB z) ∧ (judgeR z).xSecond = mx (qA z) (qB z) := by
  rw [judgeR_in (judgeR_some h).1 (judgeR_some h).2]
  exact ⟨rfl, rfl⟩
theorem trustR_yes {z : MQuarrel} (h : (judgeR z).xCode = 0) : trustR z = ⟨0, low (judgeR z).xFirst (judgeR z).xSecond⟩ := by
  unfold trustR
  rw [if_pos h, (judgeR_pair h).1, (judgeR_pair h).2]
set_option maxHeartbeats 2000000 in
theorem spec_l4Trusted (b : Nat) (z : MQuarrel) (w : World) (hb : Blk w b 44 #[.bool z.xSome, .int .i64 z.xFrom, .int .i64 z.xCheck, .int .i64 z.xTo, .int .i64 z.xTold, .int .i64 z.xHeard, .int .i64 z.xOther, .int .i64 z.xVowed]) :
    Calls Try.prog 85 #[.pointer (some ⟨b, 0, none⟩)] w fun e w' => e = .returned (.int .i64 (low (mn (qA z) (qB z)) (mx (qA z) (qB z)))) ∧ Below w.heap.size w w' := by
  have K := spec_l4Pair b z w hb
  generalize mn (qA z) (qB z) = p at *
  generalize mx (qA z) (qB z) = q at *
  clear hb
  go_enter Try.func85, Try.ntmps85
  go_wp2_with fail
  refine K.mono ?_
  rintro e w1 ⟨rfl, hb1⟩
  go_wp2_with fail
  go_loop [5] (fun i => ∃ k : Nat, i = .int .i64 k ∧ ∀ j : Nat, j < k → ((j : Int) = p ∨ (j : Int) = q)) (fun i => 4 - (intOf i).toNat)
  case atStart => exact ⟨0, rfl, fun j hj => by omega⟩
  case round =>
    obtain ⟨k, rfl, hall⟩ := hrel
    have hk := low_lt hall
    have hi : (k : Int) < 4 := by omega
    have step : ((k : Int) = p ∨ (k : Int) = q) → Hid (∀ j : Nat, j < k + 1 → ((j : Int) = p ∨ (j : Int) = q)) := fun h j hj => by
      rcases Nat.lt_or_ge j k with h' | h'
      · exact hall j h'
      · rw [show j = k by omega]; exact h
    by_cases h1 : (k : Int) = p
    · have HA := step (.inl h1)
      have e1 : ((k : Int) != p) = false := by simpa using h1
      clear h1 hall step
      go_wp2
      go_round
      case rel => exact ⟨k + 1, by go_num, HA.out⟩
      case measure => simp [intOf]; omega
    · have e1 : ((k : Int) != p) = true := by simpa using h1
      by_cases h2 : (k : Int) = q
      · have HA := step (.inr h2)
        have e2 : ((k : Int) != q) = false := by simpa using h2
        clear h1 h2 hall step
        go_wp2
        go_round
        case rel => exact ⟨k + 1, by go_num, HA.out⟩
        case measure => simp [intOf]; omega
      · have e2 : ((k : Int) != q) = true := by simpa using h2
        have HL : Hid (low p q = k) := low_at hall h1 h2
        clear h1 h2 hall step
        go_wp2
        go_ret
        exact ⟨by rw [HL.out]; rfl, (by have zz0 := (hb1).size; (try simp at zz0); repeat (first | exact Below.refl _ _ | refine Below.drew ?_ | refine below_drewN ?_ _ | refine Below.setCell ?_ (by first | omega | (simp; done) | (simp; omega)) _ | refine Below.alloc ?_ (by first | omega | (simp; done) | (simp; omega)) _ | refine bcall ?_ hb1 (by first | omega | (simp; done) | (simp; omega))))⟩
set_option maxHeartbeats 2000000 in
theorem spec_TrustedOf (v : Value) (z : MQuarrel) (w : World) (hv : RdQuarrel w v z) :
    Calls Try.prog 29 #[v] w fun e w' => ∃ u, e = .returned u ∧ RdIntResult w' u (trustR z) ∧ Below w.heap.size w w' := by
  unfold RdQuarrel at hv
  subst hv
  have B0 : Below w.heap.size w ((w.alloc (.cells #[.bool z.xSome, .int .i64 z.xFrom, .int .i64 z.xCheck, .int .i64 z.xTo, .int .i64 z.xTold, .int .i64 z.xHeard, .int .i64 z.xOther, .int .i64 z.xVowed] 44)).alloc (.cells #[.int .i64 0, .int .i64 0] 35)) := (by repeat (first | exact Below.refl _ _ | refine Below.drew ?_ | refine below_drewN ?_ _ | refine Below.setCell ?_ (by first | omega | (simp; done) | (simp; omega)) _ | refine Below.alloc ?_ (by first | omega | (simp; done) | (simp; omega)) _))
  have X0 := (Blk.new w 44 #[.bool z.xSome, .int .i64 z.xFrom, .int .i64 z.xCheck, .int .i64 z.xTo, .int .i64 z.xTold, .int .i64 z.xHeard, .int .i64 z.xOther, .int .i64 z.xVowed]).alloc (.cells #[.int .i64 0, .int .i64 0] 35)
  have Y0 : Blk ((w.alloc (.cells #[.bool z.xSome, .int .i64 z.xFrom, .int .i64 z.xCheck, .int .i64 z.xTo, .int .i64 z.xTold, .int .i64 z.xHeard, .int .i64 z.xOther, .int .i64 z.xVowed] 44)).alloc (.cells #[.int .i64 0, .int .i64 0] 35)) (w.heap.size + 1) 35 #[.int .i64 0, .int .i64 0] := by simpa using Blk.new (w.alloc (.cells #[.bool z.xSome, .int .i64 z.xFrom, .int .i64 z.xCheck, .int .i64 z.xTo, .int .i64 z.xTold, .int .i64 z.xHeard, .int .i64 z.xOther, .int .i64 z.xVowed] 44)) 35 #[.int .i64 0, .int .i64 0]
  have K := fun V => spec_JudgeQuarrel (.agg #[.bool z.xSome, .int .i64 z.xFrom, .int .i64 z.xCheck, .int .i64 z.xTo, .int .i64 z.xTold, .int .i64 z.xHeard, .int .i64 z.xOther, .int .i64 z.xVowed]) z V rfl
  by_cases h0 : (judgeR z).xCode = 0
  · have HT : Hid (trustR z = ⟨0, low (mn (qA z) (qB z)) (mx (qA z) (qB z))⟩) := by
      show _ = _
      rw [trustR_yes h0, (judgeR_pair h0).1, (judgeR_pair h0).2]
    go_enter Try.func29, Try.ntmps29
    go_wp2_with fail
    refine (K _).mono ?_
    rintro e w1 ⟨u, rfl, hu, hb1⟩
    unfold RdPairResult at hu
    subst hu
    rw [h0]
    clear K h0
    replace X0 := X0.keep hb1
    replace Y0 := Y0.keep hb1
    replace B0 : Below w.heap.size w w1 := B0.trans (hb1.mono B0.size)
    have X2 := X0.alloc (.cells #[.int .i64 0, .int .i64 (judgeR z).xFirst, .int .i64 (judgeR z).xSecond] 54)
    have Y2 := Y0.alloc (.cells #[.int .i64 0, .int .i64 (judgeR z).xFirst, .int .i64 (judgeR z).xSecond] 54)
    have B2 := B0.alloc B0.size (.cells #[.int .i64 0, .int .i64 (judgeR z).xFirst, .int .i64 (judgeR z).xSecond] 54)
    go_wp2_with fail
    refine (spec_l4Trusted _ z _ X2).mono ?_
    rintro e w2 ⟨rfl, hb2⟩
    replace Y2 := Y2.keep hb2
    replace B2 : Below w.heap.size w w2 := B2.trans (hb2.mono B2.size)
    have ya := Y2.at.1
    have yb := Y2.at.2
    have yl := Y2.lt
    clear X0 X2 Y0 B0 hb1 hb2
    generalize low (mn (qA z) (qB z)) (mx (qA z) (qB z)) = r at *
    go_wp2
    exact bodyPost_ret (v := .agg #[.int .i64 0, .int .i64 r]) (by simp [results, Try.results29, go_sem, ya]) rfl ⟨_, rfl, by rw [HT.out]; rfl, (by have zz0 := (B2).size; (try simp at zz0); repeat (first | exact Below.refl _ _ | refine Below.drew ?_ | refine below_drewN ?_ _ | refine Below.setCell ?_ (by first | omega | (simp; done) | (simp; omega)) _ | refine Below.alloc ?_ (by first | omega | (simp; done) | (simp; omega)) _ | refine bcall ?_ B2 (by first | omega | (simp; done) | (simp; omega))))⟩
  · rw [trustR_no h0]
    have hne : ((judgeR z).xCode == 0) = false := by simpa using h0
    clear h0
    go_enter Try.func29, Try.ntmps29
    go_wp2_with fail
    refine (K _).mono ?_
    rintro e w1 ⟨u, rfl, hu, hb1⟩
    unfold RdPairResult at hu
    subst hu
    clear K
    replace Y0 := Y0.keep hb1
    replace B0 : Below w.heap.size w w1 := B0.trans (hb1.mono B0.size)
    have ya := Y0.at.1
    have yb := Y0.at.2
    have yl := Y0.lt
    generalize hr : (judgeR z).xCode = r at *
    have HR : Hid ((judgeR z).xCode = r) := hr
    clear hr
    generalize (judgeR z).xFirst = r1 at *
    generalize (judgeR z).xSecond = r2 at *
    go_wp2
    exact bodyPost_ret (v := .agg #[.int .i64 r, .int .i64 0]) (by simp [results, Try.results29, go_sem, ya, yl]) rfl ⟨_, rfl, by rw [HR.out]; rfl, (by have zz0 := (B0).size; (try simp at zz0); repeat (first | exact Below.refl _ _ | refine Below.drew ?_ | refine below_drewN ?_ _ | refine Below.setCell ?_ (by first | omega | (simp; done) | (simp; omega)) _ | refine Below.alloc ?_ (by first | omega | (simp; done) | (simp; omega)) _ | refine bcall ?_ B0 (by first | omega | (simp; done) | (simp; omega))))⟩
set_option maxHeartbeats 2000000 in
theorem impl_TrustedOf (v : Value) (z : MQuarrel) (w : World) (hv : RdQuarrel w v z) :
    Calls Try.prog 21 #[v] w fun e w' => ∃ u, e = .returned u ∧ RdIntResult w' u (trustR z) ∧ Below w.heap.size w w' := by
  unfold RdQuarrel at hv
  subst hv
  have B0 : Below w.heap.size w ((w.alloc (.cells #[.bool z.xSome, .int .i64 z.xFrom, .int .i64 z.xCheck, .int .i64 z.xTo, .int .i64 z.xTold, .int .i64 z.xHeard, .int .i64 z.xOther, .int .i64 z.xVowed] 44)).alloc (.cells #[.int .i64 0, .int .i64 0] 35)) := (by repeat (first | exact Below.refl _ _ | refine Below.drew ?_ | refine below_drewN ?_ _ | refine Below.setCell ?_ (by first | omega | (simp; done) | (simp; omega)) _ | refine Below.alloc ?_ (by first | omega | (simp; done) | (simp; omega)) _))
  have X0 := (Blk.new w 44 #[.bool z.xSome, .int .i64 z.xFrom, .int .i64 z.xCheck, .int .i64 z.xTo, .int .i64 z.xTold, .int .i64 z.xHeard, .int .i64 z.xOther, .int .i64 z.xVowed]).alloc (.cells #[.int .i64 0, .int .i64 0] 35)
  have Y0 : Blk ((w.alloc (.cells #[.bool z.xSome, .int .i64 z.xFrom, .int .i64 z.xCheck, .int .i64 z.xTo, .int .i64 z.xTold, .int .i64 z.xHeard, .int .i64 z.xOther, .int .i64 z.xVowed] 44)).alloc (.cells #[.int .i64 0, .int .i64 0] 35)) (w.heap.size + 1) 35 #[.int .i64 0, .int .i64 0] := by simpa using Blk.new (w.alloc (.cells #[.bool z.xSome, .int .i64 z.xFrom, .int .i64 z.xCheck, .int .i64 z.xTo, .int .i64 z.xTold, .int .i64 z.xHeard, .int .i64 z.xOther, .int .i64 z.xVowed] 44)) 35 #[.int .i64 0, .int .i64 0]
  have K := fun V => impl_JudgeQuarrel (.agg #[.bool z.xSome, .int .i64 z.xFrom, .int .i64 z.xCheck, .int .i64 z.xTo, .int .i64 z.xTold, .int .i64 z.xHeard, .int .i64 z.xOther, .int .i64 z.xVowed]) z V rfl
  by_cases h0 : (judgeR z).xCode = 0
  · have HT : Hid (trustR z = ⟨0, low (judgeR z).xFirst (judgeR z).xSecond⟩) := trustR_yes h0
    go_enter Try.func21, Try.ntmps21
    go_wp2_with fail
    refine (K _).mono ?_
    rintro e w1 ⟨u, rfl, hu, hb1⟩
    unfold RdPairResult at hu
    subst hu
    rw [h0]
    clear K h0
    generalize (judgeR z).xFirst = p at *
    generalize (judgeR z).xSecond = q at *
    replace Y0 := Y0.keep hb1
    replace B0 : Below w.heap.size w w1 := B0.trans (hb1.mono B0.size)
    have ya := Y0.at.1
    have yb := Y0.at.2
    have yl := Y0.lt
    go_wp2_with fail
    go_loop [4] (fun i => ∃ k : Nat, i = .int .i64 k ∧ ∀ j : Nat, j < k → ((j : Int) = p ∨ (j : Int) = q)) (fun i => 4 - (intOf i).toNat)
    case atStart => exact ⟨0, rfl, fun j hj => by omega⟩
    case round =>
      obtain ⟨k, rfl, hall⟩ := hrel
      have hk := low_lt hall
      have step : ((k : Int) = p ∨ (k : Int) = q) → Hid (∀ j : Nat, j < k + 1 → ((j : Int) = p ∨ (j : Int) = q)) := fun h j hj => by
        rcases Nat.lt_or_ge j k with h' | h'
        · exact hall j h'
        · rw [show j = k by omega]; exact h
      by_cases h1 : (k : Int) = p
      · have HA := step (.inl h1)
        have e1 : ((k : Int) == p) = true := by simpa using h1
        clear h1 hall step
        go_wp2
        go_round
        case rel => exact ⟨k + 1, by go_num, HA.out⟩
        case measure => simp [intOf]; omega
      · have e1 : ((k : Int) == p) = false := by simpa using h1
        by_cases h2 : (k : Int) = q
        · have HA := step (.inr h2)
          have e2 : ((k : Int) == q) = true := by simpa using h2
          clear h1 h2 hall step
          go_wp2
          go_round
          case rel => exact ⟨k + 1, by go_num, HA.out⟩
          case measure => simp [intOf]; omega
        · have e2 : ((k : Int) == q) = false := by simpa using h2
          have HL : Hid (low p q = k) := low_at hall h1 h2
          clear h1 h2 hall step
          go_wp2
          exact bodyPost_ret (v := .agg #[.int .i64 0, .int .i64 k]) (by simp [results, Try.results21, go_sem, ya, yl]) rfl ⟨_, rfl, by rw [HT.out, HL.out]; rfl, (by have zz0 := (B0).size; (try simp at zz0); repeat (first | exact Below.refl _ _ | refine Below.drew ?_ | refine below_drewN ?_ _ | refine Below.setCell ?_ (by first | omega | (simp; done) | (simp; omega)) _ | refine Below.alloc ?_ (by first | omega | (simp; done) | (simp; omega)) _ | refine bcall ?_ B0 (by first | omega | (simp; done) | (simp; omega))))⟩
  · rw [trustR_no h0]
    have hne : ((judgeR z).xCode == 0) = false := by simpa using h0
    clear h0
    go_enter Try.func21, Try.ntmps21
    go_wp2_with fail
    refine (K _).mono ?_
    rintro e w1 ⟨u, rfl, hu, hb1⟩
    unfold RdPairResult at hu
    subst hu
    clear K
    replace Y0 := Y0.keep hb1
    replace B0 : Below w.heap.size w w1 := B0.trans (hb1.mono B0.size)
    have ya := Y0.at.1
    have yb := Y0.at.2
    have yl := Y0.lt
    generalize hr : (judgeR z).xCode = r at *
    have HR : Hid ((judgeR z).xCode = r) := hr
    clear hr
    generalize (judgeR z).xFirst = r1 at *
    generalize (judgeR z).xSecond = r2 at *
    go_wp2
    exact bodyPost_ret (v := .agg #[.int .i64 r, .int .i64 0]) (by simp [results, Try.results21, go_sem, ya, yl]) rfl ⟨_, rfl, by rw [HR.out]; rfl, (by have zz0 := (B0).size; (try simp at zz0); repeat (first | exact Below.refl _ _ | refine Below.drew ?_ | refine below_drewN ?_ _ | refine Below.setCell ?_ (by first | omega | (simp; done) | (simp; omega)) _ | refine Below.alloc ?_ (by first | omega | (simp; done) | (simp; omega)) _ | refine bcall ?_ B0 (by first | omega | (simp; done) | (simp; omega))))⟩
end Go.Proofs.Ytadppilldijijab
