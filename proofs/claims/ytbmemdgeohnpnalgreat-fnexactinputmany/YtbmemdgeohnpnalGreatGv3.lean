/-
  Many inputs in the model, where a code is told.
-/
import Derived.Test.YtbmemdgeohnpnalGreatGv1
import Derived.Test.YtbmemdgeohnpnalGreatV5
import Derived.Test.YtbmemdgeohnpnalGreatAgrS
namespace Go.Proofs.YtbmemdgeohnpnalGreat
open Go.ChangeShapes Go.WideShapes Go.ChangeAt Go.RowKit
set_option linter.unusedVariables false

set_option maxHeartbeats 4000000 in
set_option maxRecDepth 100000 in
theorem spec_InputMany_code (vv : Value) (x : MNet) (oo : Int) (lv : Value) (vs : List Int) (w : World) (hv : RdNet w vv x) (hl : Reads w .i64 lv vs) (hc : manyC x oo vs ≠ 0) :
    Calls Tryz.prog 21 #[vv, .int .i64 oo, lv] w fun e w' => OutMany w w' (badMany (manyC x oo vs)) e := by
  have KV := fun W (hb : Below w.heap.size w W) => spec_l5View 256 lv vs W (by omega) (by omega) (hl.below hb)
  obtain ⟨p0, c0, p1, c1, p2, c2, rfl, g0, g1, g2⟩ := hv
  have hlen := hl.le
  obtain ⟨pl, cl, rfl⟩ : ∃ p c, lv = .slice p vs.length c := by obtain ⟨a, c, e, _⟩ := hl; exact ⟨a, c, e⟩
  have B0 : Below w.heap.size w ((w.alloc (.cells #[.slice p0 x.xTape.length c0, .slice p1 x.xUsed.length c1, .int .i64 x.xSent, .slice p2 x.xHeard.length c2, .int .i64 x.xCheat.xWho, .int .i64 x.xCheat.xAt, .int .i64 x.xCheat.xBy, .bool x.xCheat.xCry, .bool x.xQuarrel.xSome, .int .i64 x.xQuarrel.xFrom, .int .i64 x.xQuarrel.xCheck, .int .i64 x.xQuarrel.xTo, .int .i64 x.xQuarrel.xTold, .int .i64 x.xQuarrel.xHeard, .int .i64 x.xQuarrel.xOther, .int .i64 x.xQuarrel.xVowed] 41)).alloc (.cells #[.int .i64 0, .slice none 0 0, .slice none 0 0, .slice none 0 0, .int .i64 0, .slice none 0 0, .int .i64 0, .int .i64 0, .int .i64 0, .bool false, .bool false, .int .i64 0, .int .i64 0, .int .i64 0, .int .i64 0, .int .i64 0, .int .i64 0, .int .i64 0] 56)) := (by repeat (first | exact Below.refl _ _ | refine Below.drew ?_ | refine below_drewN ?_ _ | refine Below.setCell ?_ (by first | omega | (simp; done) | (simp; omega)) _ | refine Below.alloc ?_ (by first | omega | (simp; done) | (simp; omega)) _))
  have X0 : Blk ((w.alloc (.cells #[.slice p0 x.xTape.length c0, .slice p1 x.xUsed.length c1, .int .i64 x.xSent, .slice p2 x.xHeard.length c2, .int .i64 x.xCheat.xWho, .int .i64 x.xCheat.xAt, .int .i64 x.xCheat.xBy, .bool x.xCheat.xCry, .bool x.xQuarrel.xSome, .int .i64 x.xQuarrel.xFrom, .int .i64 x.xQuarrel.xCheck, .int .i64 x.xQuarrel.xTo, .int .i64 x.xQuarrel.xTold, .int .i64 x.xQuarrel.xHeard, .int .i64 x.xQuarrel.xOther, .int .i64 x.xQuarrel.xVowed] 41)).alloc (.cells #[.int .i64 0, .slice none 0 0, .slice none 0 0, .slice none 0 0, .int .i64 0, .slice none 0 0, .int .i64 0, .int .i64 0, .int .i64 0, .bool false, .bool false, .int .i64 0, .int .i64 0, .int .i64 0, .int .i64 0, .int .i64 0, .int .i64 0, .int .i64 0] 56)) w.heap.size 41 #[.slice p0 x.xTape.length c0, .slice p1 x.xUsed.length c1, .int .i64 x.xSent, .slice p2 x.xHeard.length c2, .int .i64 x.xCheat.xWho, .int .i64 x.xCheat.xAt, .int .i64 x.xCheat.xBy, .bool x.xCheat.xCry, .bool x.xQuarrel.xSome, .int .i64 x.xQuarrel.xFrom, .int .i64 x.xQuarrel.xCheck, .int .i64 x.xQuarrel.xTo, .int .i64 x.xQuarrel.xTold, .int .i64 x.xQuarrel.xHeard, .int .i64 x.xQuarrel.xOther, .int .i64 x.xQuarrel.xVowed] := (Blk.new w _ _).alloc _
  have Y0 : Blk ((w.alloc (.cells #[.slice p0 x.xTape.length c0, .slice p1 x.xUsed.length c1, .int .i64 x.xSent, .slice p2 x.xHeard.length c2, .int .i64 x.xCheat.xWho, .int .i64 x.xCheat.xAt, .int .i64 x.xCheat.xBy, .bool x.xCheat.xCry, .bool x.xQuarrel.xSome, .int .i64 x.xQuarrel.xFrom, .int .i64 x.xQuarrel.xCheck, .int .i64 x.xQuarrel.xTo, .int .i64 x.xQuarrel.xTold, .int .i64 x.xQuarrel.xHeard, .int .i64 x.xQuarrel.xOther, .int .i64 x.xQuarrel.xVowed] 41)).alloc (.cells #[.int .i64 0, .slice none 0 0, .slice none 0 0, .slice none 0 0, .int .i64 0, .slice none 0 0, .int .i64 0, .int .i64 0, .int .i64 0, .bool false, .bool false, .int .i64 0, .int .i64 0, .int .i64 0, .int .i64 0, .int .i64 0, .int .i64 0, .int .i64 0] 56)) (w.heap.size + 1) 56 #[.int .i64 0, .slice none 0 0, .slice none 0 0, .slice none 0 0, .int .i64 0, .slice none 0 0, .int .i64 0, .int .i64 0, .int .i64 0, .bool false, .bool false, .int .i64 0, .int .i64 0, .int .i64 0, .int .i64 0, .int .i64 0, .int .i64 0, .int .i64 0] := by simpa using Blk.new (w.alloc (.cells #[.slice p0 x.xTape.length c0, .slice p1 x.xUsed.length c1, .int .i64 x.xSent, .slice p2 x.xHeard.length c2, .int .i64 x.xCheat.xWho, .int .i64 x.xCheat.xAt, .int .i64 x.xCheat.xBy, .bool x.xCheat.xCry, .bool x.xQuarrel.xSome, .int .i64 x.xQuarrel.xFrom, .int .i64 x.xQuarrel.xCheck, .int .i64 x.xQuarrel.xTo, .int .i64 x.xQuarrel.xTold, .int .i64 x.xQuarrel.xHeard, .int .i64 x.xQuarrel.xOther, .int .i64 x.xQuarrel.xVowed] 41)) 56 #[.int .i64 0, .slice none 0 0, .slice none 0 0, .slice none 0 0, .int .i64 0, .slice none 0 0, .int .i64 0, .int .i64 0, .int .i64 0, .bool false, .bool false, .int .i64 0, .int .i64 0, .int .i64 0, .int .i64 0, .int .i64 0, .int .i64 0, .int .i64 0]
  have KO := spec_l6Asked w.heap.size x p0 p1 p2 c0 c1 c2 oo _ X0 (g0.below B0) (g1.below B0) (g2.below B0)
  obtain ⟨n, hn⟩ : ∃ n, vs.length = n := ⟨_, rfl⟩
  rw [hn]
  simp only [hn] at KV hlen
  clear hl g0 g1 g2
  by_cases k0 : ownC x oo = 0
  · rw [k0] at KO
    by_cases k1 : vs.length ≤ 60
    · rw [manyC_el k0 k1] at hc ⊢
      have hk : okV 256 vs = false := by
        rw [okV_okE]
        unfold elC at hc
        by_cases h : okE 256 vs = true
        · rw [if_pos h] at hc; exact absurd rfl hc
        · simpa using h
      have he : elC 256 vs = 3 := by
        unfold elC
        rw [okV_okE] at hk
        rw [if_neg (by rw [hk]; decide)]
      rw [he]
      rw [hk] at KV
      have hgt : decide (60 < (n : Int)) = false := by simp; omega
      clear k0 k1 hc hk he
      go_enter Tryz.func21, Tryz.ntmps21
      go_wp2_with fail
      refine KO.mono ?_
      rintro e w' ⟨rfl, rfl⟩
      have Y1 := Y0
      have B1 := B0
      clear X0 Y0 B0 KO
      go_wp2_with fail
      refine (KV _ B1).mono ?_
      rintro e w' ⟨rfl, rfl⟩
      clear KV
      go_wp2_with (refine wpList_store_blk rfl 56 _ _ rfl (w.heap.size + 1) (#[.int .i64 3, .slice none 0 0, .slice none 0 0, .slice none 0 0, .int .i64 0, .slice none 0 0, .int .i64 0, .int .i64 0, .int .i64 0, .bool false, .bool false, .int .i64 0, .int .i64 0, .int .i64 0, .int .i64 0, .int .i64 0, .int .i64 0, .int .i64 0]) rfl rfl Y1 rfl (by kernel_rfl) (by kernel_rfl) ?_; intro w9 Y9 O9)
      exact bodyPost_ret (v := .agg (#[.int .i64 3, .slice none 0 0, .slice none 0 0, .slice none 0 0, .int .i64 0, .slice none 0 0, .int .i64 0, .int .i64 0, .int .i64 0, .bool false, .bool false, .int .i64 0, .int .i64 0, .int .i64 0, .int .i64 0, .int .i64 0, .int .i64 0, .int .i64 0])) (results_blk Tryz.results21 rfl Y9 Tryz.underlying56 rfl (by kernel_rfl)) rfl (OutMany.bad _ (B1.trans (O9.toBelow B1.size (by simp))))
    · rw [manyC_many k0 k1]
      have hgt : decide (60 < (n : Int)) = true := by simp; omega
      clear k0 k1 hc KV
      go_enter Tryz.func21, Tryz.ntmps21
      go_wp2_with fail
      refine KO.mono ?_
      rintro e w' ⟨rfl, rfl⟩
      have Y1 := Y0
      have B1 := B0
      clear X0 Y0 B0 KO
      go_wp2_with (refine wpList_store_blk rfl 56 _ _ rfl (w.heap.size + 1) (#[.int .i64 2, .slice none 0 0, .slice none 0 0, .slice none 0 0, .int .i64 0, .slice none 0 0, .int .i64 0, .int .i64 0, .int .i64 0, .bool false, .bool false, .int .i64 0, .int .i64 0, .int .i64 0, .int .i64 0, .int .i64 0, .int .i64 0, .int .i64 0]) rfl rfl Y1 rfl (by kernel_rfl) (by kernel_rfl) ?_; intro w9 Y9 O9)
      exact bodyPost_ret (v := .agg (#[.int .i64 2, .slice none 0 0, .slice none 0 0, .slice none 0 0, .int .i64 0, .slice none 0 0, .int .i64 0, .int .i64 0, .int .i64 0, .bool false, .bool false, .int .i64 0, .int .i64 0, .int .i64 0, .int .i64 0, .int .i64 0, .int .i64 0, .int .i64 0])) (results_blk Tryz.results21 rfl Y9 Tryz.underlying56 rfl (by kernel_rfl)) rfl (OutMany.bad _ (B1.trans (O9.toBelow B1.size (by simp))))
  · rw [manyC_own k0]
    have hne : (ownC x oo != 0) = true := by simpa using k0
    clear hc KV
    generalize ownC x oo = r at *
    clear k0
    go_enter Tryz.func21, Tryz.ntmps21
    go_wp2_with fail
    refine KO.mono ?_
    rintro e w' ⟨rfl, rfl⟩
    have Y1 := Y0
    have B1 := B0
    clear X0 Y0 B0 KO
    go_wp2_with (refine wpList_store_blk rfl 56 _ _ rfl (w.heap.size + 1) (#[.int .i64 r, .slice none 0 0, .slice none 0 0, .slice none 0 0, .int .i64 0, .slice none 0 0, .int .i64 0, .int .i64 0, .int .i64 0, .bool false, .bool false, .int .i64 0, .int .i64 0, .int .i64 0, .int .i64 0, .int .i64 0, .int .i64 0, .int .i64 0]) rfl rfl Y1 rfl (by kernel_rfl) (by kernel_rfl) ?_; intro w9 Y9 O9)
    exact bodyPost_ret (v := .agg (#[.int .i64 r, .slice none 0 0, .slice none 0 0, .slice none 0 0, .int .i64 0, .slice none 0 0, .int .i64 0, .int .i64 0, .int .i64 0, .bool false, .bool false, .int .i64 0, .int .i64 0, .int .i64 0, .int .i64 0, .int .i64 0, .int .i64 0, .int .i64 0])) (results_blk Tryz.results21 rfl Y9 Tryz.underlying56 rfl (by kernel_rfl)) rfl (OutMany.bad _ (B1.trans (O9.toBelow B1.size (by simp))))
end Go.Proofs.YtbmemdgeohnpnalGreat
