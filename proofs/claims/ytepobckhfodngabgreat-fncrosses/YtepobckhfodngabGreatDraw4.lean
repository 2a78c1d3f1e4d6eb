/-
  Draws of chapter 4's laws: who cheats.
-/
import Derived.Test.YtepobckhfodngabGreatSrc
import Derived.Test.YtepobckhfodngabGreatJnC
namespace Go.Proofs.YtepobckhfodngabGreat
open Go.ChangeShapes Go.WideShapes Go.ChangeAt Go.RowKit
set_option linter.unusedVariables false

/-- a cheat that was drawn -/
def CheatD (c : MCheat) : Prop := isBut c.xWho = true ∧ (0 ≤ c.xAt ∧ c.xAt ≤ 29) ∧ (0 ≤ c.xBy ∧ c.xBy ≤ 255)
set_option maxHeartbeats 2000000 in
theorem spec_l4DrawCheat (b : Nat) (a : Option Addr) (cap : Nat) (zs : List Int) (k : Nat) (w : World) (hs : Src w b a cap zs k) (hk : k ≤ 1000000000) :
    Calls Tryz.prog 92 #[.pointer (some ⟨b, 0, none⟩)] w fun e w' => ∃ c : MCheat, e = .returned (.agg #[.int .i64 c.xWho, .int .i64 c.xAt, .int .i64 c.xBy, .bool c.xCry]) ∧ CheatD c ∧ Src w' b a cap zs (k + 4) ∧ Off [b] w w' := by
  have hbl := hs.blk.lt
  have Y0 := Blk.new w 29 #[.int .i64 0, .int .i64 0, .int .i64 0, .bool false]
  have nb : w.heap.size ∉ [b] := fun hm => by simp at hm; omega
  go_enter Tryz.func92, Tryz.ntmps92
  go_wp2_with fail
  refine (spec_l1Next b a cap zs k 5 _ (hs.alloc _) (by omega) (by omega)).mono ?_
  rintro e w1 ⟨r1, rfl, hr1, s1, o1⟩
  have O1 : Off [b] w w1 := ((Off.refl _ _).alloc _).trans o1
  have Y1 := Y0.off o1 nb
  have h1 := hr1.1 (by omega)
  clear hr1 hs Y0 o1
  go_wp2_with fail
  refine (spec_l1Next b a cap zs (k + 1) 30 _ s1 (by omega) (by omega)).mono ?_
  rintro e w2 ⟨r2, rfl, hr2, s2, o2⟩
  replace O1 := O1.trans o2
  replace Y1 := Y1.off o2 nb
  have h2 := hr2.1 (by omega)
  have l2 := s2.blk.lt
  clear hr2 s1 o2
  go_wp2_with fail
  refine (spec_l1Pick b a cap zs (k + 1 + 1) _ [1, 128, 255, 0] [w2.heap.size] _ (s2.alloc _) (by omega) (Ints.lit w2 _ _ 4 rfl rfl (by omega)) (by simp) (by simp) (by simp; omega)).mono ?_
  rintro e w3 ⟨r3, rfl, hr3, s3, o3⟩
  replace O1 := (O1.alloc _).trans o3
  replace Y1 := (Y1.alloc _).off o3 nb
  have h3 : 0 ≤ r3 ∧ r3 ≤ 255 := by simp at hr3; omega
  clear hr3 s2 o3
  go_wp2_with fail
  refine (spec_l1Chance b a cap zs (k + 1 + 1 + 1) 3 _ s3 (by omega) (by omega)).mono ?_
  rintro e w4 ⟨r4, rfl, s4, o4⟩
  replace O1 := O1.trans o4
  replace Y1 := Y1.off o4 nb
  clear s3 o4
  have ya := Y1.at.1
  have yb := Y1.at.2
  have yl := Y1.lt
  have OO : ∀ W, Off [w.heap.size] w4 W → Hid (Src W b a cap zs (k + 4) ∧ Off [b] w W) := fun W O => ⟨s4.off O (by simp; omega), ⟨O.os.trans O1.os, O.tape.trans O1.tape, O.output.trans O1.output, Nat.le_trans O1.size O.size, fun y hy hn => (O.block y (by have := O1.size; omega) (by simp; omega)).trans (O1.block y hy hn)⟩⟩
  by_cases hneg : r1 - 1 < 0
  · go_wp2
    exact bodyPost_ret (v := .agg #[.int .i64 (-1), .int .i64 0, .int .i64 0, .bool false]) (by simp [results, Tryz.results92, go_sem, ya, yl]) rfl ⟨⟨-1, 0, 0, false⟩, rfl, ⟨rfl, by simp, by simp⟩, (OO _ ((((((Off.refl _ _).setCell _ _ (by simp)).setCell _ _ (by simp)).setCell _ _ (by simp)).setCell _ _ (by simp)).alloc _)).out⟩
  · go_wp2
    exact bodyPost_ret (v := .agg #[.int .i64 (r1 - 1), .int .i64 r2, .int .i64 r3, .bool r4]) (by simp [results, Tryz.results92, go_sem, ya, yl]) rfl ⟨⟨r1 - 1, r2, r3, r4⟩, rfl, ⟨by unfold isBut; simp only [decide_eq_true_eq]; omega, ⟨by show 0 ≤ r2; omega, by show r2 ≤ 29; omega⟩, h3⟩, (OO _ ((((((Off.refl _ _).setCell _ _ (by simp)).setCell _ _ (by simp)).setCell _ _ (by simp)).setCell _ _ (by simp)).alloc _)).out⟩
end Go.Proofs.YtepobckhfodngabGreat
