/-
  Draws of chapter 4: what words are taken from.
-/
import Derived.Test.YtadppilldijijabDraw6
namespace Go.Proofs.Ytadppilldijijab
open Go.ChangeShapes Go.WideShapes Go.ChangeAt Go.RowKit
set_option linter.unusedVariables false

set_option maxHeartbeats 4000000 in
set_option maxRecDepth 100000 in
theorem spec_DrawTakeWord (a : Option Addr) (cap : Nat) (zs : List Int) (w : World) (hr : Reads w .u8 (.slice a zs.length cap) zs) (hl : zs.length ≤ 1048576) (hb : ∀ i, 0 ≤ zs.getD i 0 ∧ zs.getD i 0 ≤ 255) :
    Calls Try.prog 30 #[.slice a zs.length cap] w fun e w' => ∃ p0 c0 p1 c1 p2 c2, ∃ x : MNet, ∃ r r2 : Int, e = .returned (.tuple #[.agg #[.slice p0 x.xTape.length c0, .slice p1 x.xUsed.length c1, .int .i64 x.xSent, .slice p2 x.xHeard.length c2, .int .i64 x.xCheat.xWho, .int .i64 x.xCheat.xAt, .int .i64 x.xCheat.xBy, .bool x.xCheat.xCry, .bool x.xQuarrel.xSome, .int .i64 x.xQuarrel.xFrom, .int .i64 x.xQuarrel.xCheck, .int .i64 x.xQuarrel.xTo, .int .i64 x.xQuarrel.xTold, .int .i64 x.xQuarrel.xHeard, .int .i64 x.xQuarrel.xOther, .int .i64 x.xQuarrel.xVowed], .int .i64 r, .int .i64 r2]) ∧ RdNet w' (.agg #[.slice p0 x.xTape.length c0, .slice p1 x.xUsed.length c1, .int .i64 x.xSent, .slice p2 x.xHeard.length c2, .int .i64 x.xCheat.xWho, .int .i64 x.xCheat.xAt, .int .i64 x.xCheat.xBy, .bool x.xCheat.xCry, .bool x.xQuarrel.xSome, .int .i64 x.xQuarrel.xFrom, .int .i64 x.xQuarrel.xCheck, .int .i64 x.xQuarrel.xTo, .int .i64 x.xQuarrel.xTold, .int .i64 x.xQuarrel.xHeard, .int .i64 x.xQuarrel.xOther, .int .i64 x.xQuarrel.xVowed]) x ∧ Fit x ∧ Below w.heap.size w w' := by
  have B0 : Below w.heap.size w (w.alloc (.cells #[.slice none 0 0, .slice none 0 0, .int .i64 0, .slice none 0 0, .int .i64 0, .int .i64 0, .int .i64 0, .bool false, .bool false, .int .i64 0, .int .i64 0, .int .i64 0, .int .i64 0, .int .i64 0, .int .i64 0, .int .i64 0] 46)) := (by repeat (first | exact Below.refl _ _ | refine Below.drew ?_ | refine below_drewN ?_ _ | refine Below.setCell ?_ (by first | omega | (simp; done) | (simp; omega)) _ | refine Below.alloc ?_ (by first | omega | (simp; done) | (simp; omega)) _))
  have Y0 := Blk.new w 46 #[.slice none 0 0, .slice none 0 0, .int .i64 0, .slice none 0 0, .int .i64 0, .int .i64 0, .int .i64 0, .bool false, .bool false, .int .i64 0, .int .i64 0, .int .i64 0, .int .i64 0, .int .i64 0, .int .i64 0, .int .i64 0]
  go_enter Try.func30, Try.ntmps30
  go_wp2_with fail
  refine (spec_l1Source a cap zs _ (hr.below B0) hl hb).mono ?_
  rintro e w1 ⟨rfl, s1, hb1⟩
  have hz : (w.alloc (.cells #[.slice none 0 0, .slice none 0 0, .int .i64 0, .slice none 0 0, .int .i64 0, .int .i64 0, .int .i64 0, .bool false, .bool false, .int .i64 0, .int .i64 0, .int .i64 0, .int .i64 0, .int .i64 0, .int .i64 0, .int .i64 0] 46)).heap.size = w.heap.size + 1 := by simp
  rw [hz] at s1 ⊢
  replace Y0 := Y0.keep hb1
  replace B0 : Below w.heap.size w w1 := B0.trans (hb1.mono B0.size)
  have l1 := s1.blk.lt
  clear hb1 hz
  go_wp2_with fail
  refine (spec_l4Bent _ a cap zs 0 _ s1 (by omega)).mono ?_
  rintro e w2 ⟨u, rfl, x, hR, hF, ⟨j, hj, s2⟩, o2⟩
  obtain ⟨p0, c0, p1, c1, p2, c2, rfl, -⟩ := hR w2 [] (Off.refl _ _) (by simp)
  have HR := (show Hid _ from hR)
  have Y2 := Y0.off o2 (by simp)
  have z2 := o2.size
  have B2 : Below w.heap.size w w2 := B0.trans (o2.toBelow B0.size (by simp))
  clear hR Y0 B0 o2 s1
  go_wp2_with fail
  refine (spec_l1Pick _ a cap zs (0 + j) _ [0, 1, 2, 3, 4] [w2.heap.size] _ (s2.alloc _) (by omega) (Ints.lit w2 _ _ 5 rfl rfl (by omega)) (by simp) (by simp) (by simp; omega)).mono ?_
  rintro e w3 ⟨r, rfl, -, s3, o3⟩
  have O3 : Off [w.heap.size + 1] w2 w3 := ((Off.refl _ _).alloc _).trans o3
  have l3 := s3.blk.lt
  go_wp2_with fail
  refine (spec_l1Pick _ a cap zs (0 + j + 1) _ [2, 256, 3] [w3.heap.size] _ (s3.alloc _) (by omega) (Ints.lit w3 _ _ 3 rfl rfl (by omega)) (by simp) (by simp) (by simp; omega)).mono ?_
  rintro e w4 ⟨r2, rfl, -, s4, o4⟩
  have O4 : Off [w.heap.size + 1] w2 w4 := (O3.alloc _).trans o4
  have Y4 := Y2.off O4 (by simp)
  have B4 : Below w.heap.size w w4 := B2.trans (O4.toBelow B2.size (by simp))
  clear Y2 B2 O3 o3 o4 s2 s3 s4
  go_wp2_with (refine wpList_store_blk rfl 46 _ _ rfl w.heap.size (#[.slice p0 x.xTape.length c0, .slice p1 x.xUsed.length c1, .int .i64 x.xSent, .slice p2 x.xHeard.length c2, .int .i64 x.xCheat.xWho, .int .i64 x.xCheat.xAt, .int .i64 x.xCheat.xBy, .bool x.xCheat.xCry, .bool x.xQuarrel.xSome, .int .i64 x.xQuarrel.xFrom, .int .i64 x.xQuarrel.xCheck, .int .i64 x.xQuarrel.xTo, .int .i64 x.xQuarrel.xTold, .int .i64 x.xQuarrel.xHeard, .int .i64 x.xQuarrel.xOther, .int .i64 x.xQuarrel.xVowed]) rfl rfl Y4 rfl (by kernel_rfl) (by kernel_rfl) ?_; intro w9 Y9 O9)
  have ya := Y9.at.1
  have B9 : Below w.heap.size w w9 := B4.trans (O9.toBelow B4.size (by simp))
  have R9 := HR.out w9 [w.heap.size + 1, w.heap.size] ((O4.mono (by simp)).trans (O9.mono (by simp))) (by simp; omega)
  exact bodyPost_ret (v := .tuple #[.agg #[.slice p0 x.xTape.length c0, .slice p1 x.xUsed.length c1, .int .i64 x.xSent, .slice p2 x.xHeard.length c2, .int .i64 x.xCheat.xWho, .int .i64 x.xCheat.xAt, .int .i64 x.xCheat.xBy, .bool x.xCheat.xCry, .bool x.xQuarrel.xSome, .int .i64 x.xQuarrel.xFrom, .int .i64 x.xQuarrel.xCheck, .int .i64 x.xQuarrel.xTo, .int .i64 x.xQuarrel.xTold, .int .i64 x.xQuarrel.xHeard, .int .i64 x.xQuarrel.xOther, .int .i64 x.xQuarrel.xVowed], .int .i64 r, .int .i64 r2]) (by simp [results, Try.results30, go_sem, ya]) rfl ⟨p0, c0, p1, c1, p2, c2, x, r, r2, rfl, R9, hF, B9⟩
end Go.Proofs.Ytadppilldijijab
