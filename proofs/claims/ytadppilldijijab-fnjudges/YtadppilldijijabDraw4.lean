/-
  Draws of chapter 4's laws: who cheats.
-/
import Derived.Test.YtadppilldijijabSrc
import Derived.Test.YtadppilldijijabJnC
namespace Go.Proofs.Ytadppilldijijab
open Go.ChangeShapes Go.WideShapes Go.ChangeAt Go.RowKit
set_option linter.unusedVariables false

/-- a cheat that was drawn -/
def CheatD (c : MCheat) : Prop := isBut c.xWho = true ∧ (0 ≤ c.xAt ∧ c.xAt ≤ 29) ∧ (0 ≤ c.xBy ∧ c.xBy ≤ 255)
set_option maxHeartbeats 2000000 in
theorem spec_l4DrawCheat (b : Nat) (a : Option Addr) (cap : Nat) (zs : List Int) (k : Nat) (w : World) (hs : Src w b a cap zs k) (hk : k ≤ 1000000000) :
    Calls Try.prog 77 #[.pointer (some ⟨b, 0, none⟩)] w fun e w' => ∃ c : MCheat, e = .returned (.agg #[.int .i64 c.xWho, .int .i64 c.xAt, .int .i64 c.xBy, .bool c.xCry]) ∧ CheatD c ∧ Src w' b a cap zs (k + 4) ∧ Off [b] w w' := by
  have hbl := hs.blk.lt
  have Y0 := Blk.new w 42 #[.int .i64 0, .int .i64 0, .int .i64 0, .bool false]
  have nb : w.heap.size ∉ [b] := fun hm => by simp at hm; omega
  go_enter Try.func77, Try.ntmps77
  go_wp2_with fail
  refine (spec_l1Next b a cap zs k 5 _ (hs.alloc _) (by omega) (by omega)).mono ?_
  rintro e w1 ⟨r1, rfl, hr1, s1, o1⟩
  have O1 : Off [b] w w1 := ((Off.refl _ _).alloc _).trans o1
  have Y1 := Y0.off o1 nb
  have h1 := hr1.1 (by omega)
  clear hr1 hs Y0 o1
  go_wp2_with fail
  refine (spec_l1Next b a cap zs (k + 1) 30 _ s1 (by omega) (by omega)).mono ?_
  rintro e w2 ⟨r2, rfl, hr2, s2, o2⟩
  replace O1 := O1.trans o2
  replace Y1 := Y1.off o2 nb
  have h2 := hr2.1 (by omega)
  have l2 := s2.blk.lt
  clear hr2 s1 o2
  go_wp2_with fail
  refine (spec_l1Pick b a cap zs (k + 1 + 1) _ [1, 128, 255, 0] [w2.heap.size] _ (s2.alloc _) (by omega) (Ints.lit w2 _ _ 4 rfl rfl (by omega)) (by simp) (by simp) (by simp; omega)).mono ?_
  rintro e w3 ⟨r3, rfl, hr3, s3, o3⟩
  replace O1 := (O1.alloc _).trans o3
  replace Y1 := (Y1.alloc _).off o3 nb
  have h3 : 0 ≤ r3 ∧ r3 ≤ 255 := by simp at hr3; omega
  clear hr3 s2 o3
  go_wp2_with fail
  refine (spec_l1Chance b a cap zs (k + 1 + 1 + 1) 3 _ s3 (by omega) (by omega)).mono ?_
  rintro e w4 ⟨r4, rfl, s4, o4⟩
  replace O1 := O1.trans o4
  replace Y1 := Y1.off o4 nb
  clear s3 o4
  have ya := Y1.at.1
  have yb := Y1.at.2
  have yl := Y1.lt
  have OO : ∀ W, Off [w.heap.size] w4 W → Hid (Src W b a cap zs (k + 4) ∧ Off [b] w W) := fun W O => ⟨s4.off O (by simp; omega), ⟨O.os.trans O1.os, O.tape.trans O1.tape, O.output.trans O1.output, Nat.le_trans O1.size O.size, fun y hy hn => (O.block y (by have := O1.size; omega) (by simp; omega)).trans (O1.block y hy hn)⟩⟩
  by_cases hneg : r1 - 1 < 0
  · go_wp2
    exact bodyPost_ret (v := .agg #[.int .i64 (-1), .int .i64 0, .int .i64 0, .bool false]) (by simp [results, Try.results77, go_sem, ya, yl]) rfl ⟨⟨-1, 0, 0, false⟩, rfl, ⟨rfl, by simp, by simp⟩, (OO _ ((((((Off.refl _ _).setCell _ _ (by simp)).setCell _ _ (by simp)).setCell _ _ (by simp)).setCell _ _ (by simp)).alloc _)).out⟩
  · go_wp2
    exact bodyPost_ret (v := .agg #[.int .i64 (r1 - 1), .int .i64 r2, .int .i64 r3, .bool r4]) (by simp [results, Try.results77, go_sem, ya, yl]) rfl ⟨⟨r1 - 1, r2, r3, r4⟩, rfl, ⟨by unfold isBut; simp only [decide_eq_true_eq]; omega, ⟨by show 0 ≤ r2; omega, by show r2 ≤ 29; omega⟩, h3⟩, (OO _ ((((((Off.refl _ _).setCell _ _ (by simp)).setCell _ _ (by simp)).setCell _ _ (by simp)).setCell _ _ (by simp)).alloc _)).out⟩
set_option maxHeartbeats 4000000 in
theorem spec_l4DrawQuarrel (b : Nat) (a : Option Addr) (cap : Nat) (zs : List Int) (k : Nat) (w : World) (hs : Src w b a cap zs k) (hk : k ≤ 1000000000) :
    Calls Try.prog 75 #[.pointer (some ⟨b, 0, none⟩)] w fun e w' => ∃ z : MQuarrel, ∃ m : Nat, e = .returned (.agg #[.bool z.xSome, .int .i64 z.xFrom, .int .i64 z.xCheck, .int .i64 z.xTo, .int .i64 z.xTold, .int .i64 z.xHeard, .int .i64 z.xOther, .int .i64 z.xVowed]) ∧ m ≤ k + 7 ∧ Src w' b a cap zs m ∧ Off [b] w w' := by
  have hbl := hs.blk.lt
  have Y1 := Blk.new w 44 #[.bool false, .int .i64 0, .int .i64 0, .int .i64 0, .int .i64 0, .int .i64 0, .int .i64 0, .int .i64 0]
  have nb : w.heap.size ∉ [b] := fun hm => by simp at hm; omega
  have O1 : Off [b] w (w.alloc (.cells #[.bool false, .int .i64 0, .int .i64 0, .int .i64 0, .int .i64 0, .int .i64 0, .int .i64 0, .int .i64 0] 44)) := (Off.refl _ _).alloc _
  have s := hs.alloc (.cells #[.bool false, .int .i64 0, .int .i64 0, .int .i64 0, .int .i64 0, .int .i64 0, .int .i64 0, .int .i64 0] 44)
  clear hs
  go_enter Try.func75, Try.ntmps75
  go_wp2_with fail
  refine (spec_l1Next b a cap zs (k) 4 _ s (by omega) (by omega)).mono ?_
  rintro e w0 ⟨r0, rfl, hr0, s0, o0⟩
  replace O1 := O1.trans o0
  replace Y1 := Y1.off o0 nb
  have h0 := hr0.1 (by omega)
  clear hr0 o0 s
  have m1 : (r0 + 1).tmod 4 = (r0 + 1) % 4 := Int.tmod_eq_emod_of_nonneg (by omega)
  have m2 : (r0 + 2).tmod 4 = (r0 + 2) % 4 := Int.tmod_eq_emod_of_nonneg (by omega)
  go_wp2_with fail
  refine (spec_l1Next b a cap zs (k + 1) 2 _ s0 (by omega) (by omega)).mono ?_
  rintro e w1 ⟨r1, rfl, hr1, s1, o1⟩
  replace O1 := O1.trans o1
  replace Y1 := Y1.off o1 nb
  have h1 := hr1.1 (by omega)
  clear hr1 o1 s0
  go_wp2_with fail
  refine (spec_l1Next b a cap zs (k + 1 + 1) 2 _ s1 (by omega) (by omega)).mono ?_
  rintro e w2 ⟨r2, rfl, hr2, s2, o2⟩
  replace O1 := O1.trans o2
  replace Y1 := Y1.off o2 nb
  have h2 := hr2.1 (by omega)
  clear hr2 o2 s1
  go_wp2_with fail
  refine (spec_l1Next b a cap zs (k + 1 + 1 + 1) 2 _ s2 (by omega) (by omega)).mono ?_
  rintro e w3 ⟨r3, rfl, hr3, s3, o3⟩
  replace O1 := O1.trans o3
  replace Y1 := Y1.off o3 nb
  have h3 := hr3.1 (by omega)
  clear hr3 o3 s2
  go_wp2_with fail
  refine (spec_l1Next b a cap zs (k + 1 + 1 + 1 + 1) 2 _ s3 (by omega) (by omega)).mono ?_
  rintro e w4 ⟨r4, rfl, hr4, s4, o4⟩
  replace O1 := O1.trans o4
  replace Y1 := Y1.off o4 nb
  have h4 := hr4.1 (by omega)
  clear hr4 o4 s3
  have ZZ := Blk.new w4 44 #[.bool true, .int .i64 r0, .int .i64 ((r0 + 1) % 4), .int .i64 ((r0 + 2) % 4), .int .i64 r1, .int .i64 r2, .int .i64 r3, .int .i64 r4]
  have lb4 := s4.blk.lt
  have YA := Y1.alloc (.cells #[.bool true, .int .i64 r0, .int .i64 ((r0 + 1) % 4), .int .i64 ((r0 + 2) % 4), .int .i64 r1, .int .i64 r2, .int .i64 r3, .int .i64 r4] 44)
  have SA := s4.alloc (.cells #[.bool true, .int .i64 r0, .int .i64 ((r0 + 1) % 4), .int .i64 ((r0 + 2) % 4), .int .i64 r1, .int .i64 r2, .int .i64 r3, .int .i64 r4] 44)
  have OA := O1.alloc (.cells #[.bool true, .int .i64 r0, .int .i64 ((r0 + 1) % 4), .int .i64 ((r0 + 2) % 4), .int .i64 r1, .int .i64 r2, .int .i64 r3, .int .i64 r4] 44)
  have ly := Y1.lt
  clear Y1 O1 s4
  go_wp2_with fail
  refine (spec_l1Next b a cap zs (k + 1 + 1 + 1 + 1 + 1) 10 _ SA (by omega) (by omega)).mono ?_
  rintro e w5 ⟨r5, rfl, hr5, s5, o5⟩
  have Y5 := YA.off o5 nb
  have Z5 := ZZ.off o5 (fun hm => by simp at hm; omega)
  have O5 := OA.trans o5
  have h5 := hr5.1 (by omega)
  have sz5 := o5.size
  simp at sz5
  clear hr5 o5 SA YA OA ZZ
  have ya := Y5.at.1
  have yb := Y5.at.2
  have yl := Y5.lt
  have za := Z5.at.1
  have zb := Z5.at.2
  have zl := Z5.lt
  have OO : ∀ W, Off [w.heap.size, w4.heap.size] w5 W → Hid (Src W b a cap zs (k + 1 + 1 + 1 + 1 + 1 + 1) ∧ Off [b] w W) := fun W O => ⟨s5.off O (by simp; omega), ⟨O.os.trans O5.os, O.tape.trans O5.tape, O.output.trans O5.output, Nat.le_trans O5.size O.size, fun y hy hn => (O.block y (by have := O5.size; omega) (by simp; omega)).trans (O5.block y hy hn)⟩⟩
  by_cases e0 : r5 = 0
  · subst e0
    clear s5
    go_wp2
    exact bodyPost_ret (v := .agg #[.bool false, .int .i64 r0, .int .i64 ((r0 + 1) % 4), .int .i64 ((r0 + 2) % 4), .int .i64 r1, .int .i64 r2, .int .i64 r3, .int .i64 r4]) (by simp [results, Try.results75, go_sem, ya]) rfl ⟨⟨false, r0, (r0 + 1) % 4, ((r0 + 2) % 4), r1, r2, r3, r4⟩, k + 1 + 1 + 1 + 1 + 1 + 1, rfl, by omega, (OO _ (((((((((((Off.refl _ _).setCell _ _ (by simp)).setCell _ _ (by simp)).setCell _ _ (by simp)).setCell _ _ (by simp)).setCell _ _ (by simp)).setCell _ _ (by simp)).setCell _ _ (by simp)).setCell _ _ (by simp)).setCell _ _ (by simp)))).out⟩
  · have e0' : (r5 == 0) = false := by simpa using e0
    by_cases e1 : r5 = 1
    · subst e1
      clear e0 e0'
      have l5 := s5.blk.lt
      clear ya yb yl za zb zl
      go_wp2_with fail
      refine (spec_l1Pick b a cap zs (k + 1 + 1 + 1 + 1 + 1 + 1) _ [r0, 4] [w5.heap.size] _ (s5.alloc _) (by omega) (Ints.lit w5 _ _ 2 rfl rfl (by omega)) (by simp) (by simp) (by simp; omega)).mono ?_
      rintro e w6 ⟨r6, rfl, hr6, s6, o6⟩
      have Y6 := (Y5.alloc _).off o6 nb
      have Z6 := (Z5.alloc _).off o6 (fun hm => by simp at hm; omega)
      have O6 := (O5.alloc _).trans o6
      have sz6 := o6.size
      simp at sz6
      have ya := Y6.at.1
      have yb := Y6.at.2
      have yl := Y6.lt
      have za := Z6.at.1
      have zb := Z6.at.2
      have zl := Z6.lt
      clear o6 s5 OO
      have O2 : ∀ W, Off [w.heap.size, w4.heap.size] w6 W → Hid (Src W b a cap zs (k + 1 + 1 + 1 + 1 + 1 + 1 + 1) ∧ Off [b] w W) := fun W O => ⟨s6.off O (by simp; omega), ⟨O.os.trans O6.os, O.tape.trans O6.tape, O.output.trans O6.output, Nat.le_trans O6.size O.size, fun y hy hn => (O.block y (by have := O6.size; omega) (by simp; omega)).trans (O6.block y hy hn)⟩⟩
      clear s6
      go_wp2
      exact bodyPost_ret (v := .agg #[.bool true, .int .i64 r0, .int .i64 ((r0 + 1) % 4), .int .i64 r6, .int .i64 r1, .int .i64 r2, .int .i64 r3, .int .i64 r4]) (by simp [results, Try.results75, go_sem, ya]) rfl ⟨⟨true, r0, (r0 + 1) % 4, r6, r1, r2, r3, r4⟩, k + 1 + 1 + 1 + 1 + 1 + 1 + 1, rfl, by omega, (O2 _ (((((((((((Off.refl _ _).setCell _ _ (by simp)).setCell _ _ (by simp)).setCell _ _ (by simp)).setCell _ _ (by simp)).setCell _ _ (by simp)).setCell _ _ (by simp)).setCell _ _ (by simp)).setCell _ _ (by simp)).setCell _ _ (by simp)))).out⟩
    · have e1' : (r5 == 1) = false := by simpa using e1
      clear e0 e1 s5
      go_wp2
      exact bodyPost_ret (v := .agg #[.bool true, .int .i64 r0, .int .i64 ((r0 + 1) % 4), .int .i64 ((r0 + 2) % 4), .int .i64 r1, .int .i64 r2, .int .i64 r3, .int .i64 r4]) (by simp [results, Try.results75, go_sem, ya]) rfl ⟨⟨true, r0, (r0 + 1) % 4, ((r0 + 2) % 4), r1, r2, r3, r4⟩, k + 1 + 1 + 1 + 1 + 1 + 1, rfl, by omega, (OO _ ((((((((((Off.refl _ _).setCell _ _ (by simp)).setCell _ _ (by simp)).setCell _ _ (by simp)).setCell _ _ (by simp)).setCell _ _ (by simp)).setCell _ _ (by simp)).setCell _ _ (by simp)).setCell _ _ (by simp)))).out⟩
set_option maxHeartbeats 1000000 in
theorem spec_DrawJudgeQuarrel (a : Option Addr) (cap : Nat) (zs : List Int) (w : World) (hr : Reads w .u8 (.slice a zs.length cap) zs) (hl : zs.length ≤ 1048576) (hb : ∀ i, 0 ≤ zs.getD i 0 ∧ zs.getD i 0 ≤ 255) :
    Calls Try.prog 22 #[.slice a zs.length cap] w fun e w' => ∃ z : MQuarrel, e = .returned (.agg #[.bool z.xSome, .int .i64 z.xFrom, .int .i64 z.xCheck, .int .i64 z.xTo, .int .i64 z.xTold, .int .i64 z.xHeard, .int .i64 z.xOther, .int .i64 z.xVowed]) ∧ Below w.heap.size w w' := by
  have B0 : Below w.heap.size w (w.alloc (.cells #[.bool false, .int .i64 0, .int .i64 0, .int .i64 0, .int .i64 0, .int .i64 0, .int .i64 0, .int .i64 0] 44)) := (by repeat (first | exact Below.refl _ _ | refine Below.drew ?_ | refine below_drewN ?_ _ | refine Below.setCell ?_ (by first | omega | (simp; done) | (simp; omega)) _ | refine Below.alloc ?_ (by first | omega | (simp; done) | (simp; omega)) _))
  have Y0 := Blk.new w 44 #[.bool false, .int .i64 0, .int .i64 0, .int .i64 0, .int .i64 0, .int .i64 0, .int .i64 0, .int .i64 0]
  go_enter Try.func22, Try.ntmps22
  go_wp2_with fail
  refine (spec_l1Source a cap zs _ (hr.below B0) hl hb).mono ?_
  rintro e w1 ⟨rfl, s1, hb1⟩
  replace Y0 := Y0.keep hb1
  have sz1 := hb1.size
  simp at sz1
  replace B0 : Below w.heap.size w w1 := B0.trans (hb1.mono B0.size)
  clear hb1
  go_wp2_with fail
  have s1' : Src w1 (w.heap.size + 1) a cap zs 0 := by simpa using s1
  refine (spec_l4DrawQuarrel (w.heap.size + 1) a cap zs 0 _ s1' (by omega)).mono ?_
  rintro e w2 ⟨z, m, rfl, hm, s2, o2⟩
  replace Y0 := Y0.off o2 (fun h => by simp at h)
  clear s1'
  have B2 : Below w.heap.size w w2 := B0.trans (o2.toBelow B0.size (by simp))
  have ya := Y0.at.1
  have yb := Y0.at.2
  have yl := Y0.lt
  clear s1 s2 o2 B0
  have OO : ∀ W, Off [w.heap.size] w2 W → Below w.heap.size w W := fun W O => B2.trans (O.toBelow B2.size (by simp))
  go_wp2
  exact bodyPost_ret (v := .agg #[.bool z.xSome, .int .i64 z.xFrom, .int .i64 z.xCheck, .int .i64 z.xTo, .int .i64 z.xTold, .int .i64 z.xHeard, .int .i64 z.xOther, .int .i64 z.xVowed]) (by simp [results, Try.results22, go_sem, ya]) rfl ⟨z, rfl, OO _ ((((((((((Off.refl _ _).setCell _ _ (by simp)).setCell _ _ (by simp)).setCell _ _ (by simp)).setCell _ _ (by simp)).setCell _ _ (by simp)).setCell _ _ (by simp)).setCell _ _ (by simp)).setCell _ _ (by simp)))⟩
end Go.Proofs.Ytadppilldijijab
