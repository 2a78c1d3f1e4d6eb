/-
  Answers with a mirror and a net: what a code leaves, what is owned.
-/
import Derived.Test.YtepobckhfodngaoGreatOwn6
import Derived.Test.YtepobckhfodngaoGreatCopyT
import Derived.Test.YtepobckhfodngaoGreatNin
namespace Go.Proofs.YtepobckhfodngaoGreat
open Go.ChangeShapes Go.WideShapes Go.ChangeAt Go.RowKit
set_option linter.unusedVariables false
def badM (c : Int) : MMixResult := ⟨c, ⟨0, []⟩, ⟨[], [], 0, [], ⟨0, 0, 0, false⟩, ⟨false, 0, 0, 0, 0, 0, 0, 0⟩⟩⟩
def OutMix (w w' : World) (r : MMixResult) (e : Ending) : Prop := ∃ u b0 b1 b2 b3, e = .returned u ∧ OwMixResult w' u r b0 b1 b2 b3 ∧ (∀ y ∈ b0, w.heap.size ≤ y) ∧ (∀ y ∈ b1, w.heap.size ≤ y) ∧ (∀ y ∈ b2, w.heap.size ≤ y) ∧ (∀ y ∈ b3, w.heap.size ≤ y) ∧ Below w.heap.size w w'
theorem OutMix.bad {w W : World} (c : Int) (h : Below w.heap.size w W) : OutMix w W (badM c) (.returned (.agg #[.int .i64 c, .int .i64 0, .slice none 0 0, .slice none 0 0, .slice none 0 0, .int .i64 0, .slice none 0 0, .int .i64 0, .int .i64 0, .int .i64 0, .bool false, .bool false, .int .i64 0, .int .i64 0, .int .i64 0, .int .i64 0, .int .i64 0, .int .i64 0, .int .i64 0])) :=
  ⟨_, [], [], [], [], rfl, ⟨none, 0, none, 0, none, 0, none, 0, rfl, Mat.nil _, Mat.nil _, Ints.nil _, Mat.nil _, (fun g hg => by cases hg), (fun g hg => by cases hg), (fun g hg => by cases hg), (fun g hg => by cases hg), (fun g hg => by cases hg), (fun g hg => by cases hg)⟩, by simp, by simp, by simp, by simp, h⟩
set_option maxHeartbeats 1000000 in
theorem spec_l5Bad (c : Int) (w : World) : Calls Tryz.prog 31 #[.int .i64 c] w fun e w' => e = .returned (.agg #[.int .i64 c, .int .i64 0, .slice none 0 0, .slice none 0 0, .slice none 0 0, .int .i64 0, .slice none 0 0, .int .i64 0, .int .i64 0, .int .i64 0, .bool false, .bool false, .int .i64 0, .int .i64 0, .int .i64 0, .int .i64 0, .int .i64 0, .int .i64 0, .int .i64 0]) ∧ Below w.heap.size w w' := by
  have Y0 := Blk.new w 43 #[.int .i64 0, .int .i64 0, .slice none 0 0, .slice none 0 0, .slice none 0 0, .int .i64 0, .slice none 0 0, .int .i64 0, .int .i64 0, .int .i64 0, .bool false, .bool false, .int .i64 0, .int .i64 0, .int .i64 0, .int .i64 0, .int .i64 0, .int .i64 0, .int .i64 0]
  have B0 : Below w.heap.size w (w.alloc (.cells #[.int .i64 0, .int .i64 0, .slice none 0 0, .slice none 0 0, .slice none 0 0, .int .i64 0, .slice none 0 0, .int .i64 0, .int .i64 0, .int .i64 0, .bool false, .bool false, .int .i64 0, .int .i64 0, .int .i64 0, .int .i64 0, .int .i64 0, .int .i64 0, .int .i64 0] 43)) := (by repeat (first | exact Below.refl _ _ | refine Below.drew ?_ | refine below_drewN ?_ _ | refine Below.setCell ?_ (by first | omega | (simp; done) | (simp; omega)) _ | refine Below.alloc ?_ (by first | omega | (simp; done) | (simp; omega)) _))
  go_enter Tryz.func31, Tryz.ntmps31
  go_wp2_with (refine wpList_store_blk rfl 43 _ _ rfl w.heap.size (#[.int .i64 c, .int .i64 0, .slice none 0 0, .slice none 0 0, .slice none 0 0, .int .i64 0, .slice none 0 0, .int .i64 0, .int .i64 0, .int .i64 0, .bool false, .bool false, .int .i64 0, .int .i64 0, .int .i64 0, .int .i64 0, .int .i64 0, .int .i64 0, .int .i64 0]) rfl rfl Y0 rfl (by kernel_rfl) (by kernel_rfl) ?_; intro w1 Y1 O1)
  have B1 : Below w.heap.size w w1 := B0.trans (O1.toBelow B0.size (by simp))
  exact bodyPost_ret (v := .agg #[.int .i64 c, .int .i64 0, .slice none 0 0, .slice none 0 0, .slice none 0 0, .int .i64 0, .slice none 0 0, .int .i64 0, .int .i64 0, .int .i64 0, .bool false, .bool false, .int .i64 0, .int .i64 0, .int .i64 0, .int .i64 0, .int .i64 0, .int .i64 0, .int .i64 0]) (results_blk Tryz.results31 rfl Y1 Tryz.underlying43 rfl (by kernel_rfl)) rfl ⟨rfl, B1⟩
/-- a mirror and a net that lie in new memory are an answer -/
theorem OutMix.ok {w W W' : World} {b0 : Nat} {x : MNet} {bs : List Nat} {q : Int} {m : List (List Int)} {z : Value} {bm : List Nat} (B : Below w.heap.size w W') (N : NetIn W b0 x bs) (h : ∀ y ∈ bs, w.heap.size ≤ y ∧ W'.heap[y]? = W.heap[y]?) (M : Mat W' z m bm) (hm : ∀ y ∈ bm, w.heap.size ≤ y ∧ y ∉ bs) :
    ∃ q0 q1 gH d0 d1 d2, W.heap[b0]? = some (.cells #[.slice q0 x.xTape.length d0, .slice q1 x.xUsed.length d1, .int .i64 x.xSent, .slice (some ⟨gH, 0, none⟩) x.xHeard.length d2, .int .i64 x.xCheat.xWho, .int .i64 x.xCheat.xAt, .int .i64 x.xCheat.xBy, .bool x.xCheat.xCry, .bool x.xQuarrel.xSome, .int .i64 x.xQuarrel.xFrom, .int .i64 x.xQuarrel.xCheck, .int .i64 x.xQuarrel.xTo, .int .i64 x.xQuarrel.xTold, .int .i64 x.xQuarrel.xHeard, .int .i64 x.xQuarrel.xOther, .int .i64 x.xQuarrel.xVowed] 41 (0, 0)) ∧
      ∀ c p k, z = .slice p m.length k → OutMix w W' ⟨c, ⟨q, m⟩, x⟩ (.returned (.agg #[.int .i64 c, .int .i64 q, z, .slice q0 x.xTape.length d0, .slice q1 x.xUsed.length d1, .int .i64 x.xSent, .slice (some ⟨gH, 0, none⟩) x.xHeard.length d2, .int .i64 x.xCheat.xWho, .int .i64 x.xCheat.xAt, .int .i64 x.xCheat.xBy, .bool x.xCheat.xCry, .bool x.xQuarrel.xSome, .int .i64 x.xQuarrel.xFrom, .int .i64 x.xQuarrel.xCheck, .int .i64 x.xQuarrel.xTo, .int .i64 x.xQuarrel.xTold, .int .i64 x.xQuarrel.xHeard, .int .i64 x.xQuarrel.xOther, .int .i64 x.xQuarrel.xVowed])) := by
  obtain ⟨q0, q1, gH, d0, d1, d2, bt, b1, b2, Z, T, U, H, n0, n1, n2, e01, e02, e12, rfl⟩ := N
  refine ⟨q0, q1, gH, d0, d1, d2, Z, fun c p k hz => ?_⟩
  subst hz
  exact ⟨_, bm, bt, b1, b2, rfl, ⟨p, k, q0, d0, q1, d1, some ⟨gH, 0, none⟩, d2, rfl, M, T.frame (fun g hg => (h g (by simp [hg])).2), U.frame (fun g hg => (h g (by simp [hg])).2), (H.frame (fun g hg => (h g (by simp [hg])).2)).mat, (fun g hg hh => (hm g hg).2 (by simp [hh])), (fun g hg hh => (hm g hg).2 (by simp [hh])), (fun g hg hh => (hm g hg).2 (by simp [hh])), e01, e02, e12⟩, fun y hy => (hm y hy).1, fun y hy => (h y (by simp [hy])).1, fun y hy => (h y (by simp [hy])).1, fun y hy => (h y (by simp [hy])).1, B⟩
end Go.Proofs.YtepobckhfodngaoGreat
