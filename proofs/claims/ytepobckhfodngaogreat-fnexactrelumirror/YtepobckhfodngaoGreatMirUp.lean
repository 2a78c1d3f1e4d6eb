/-
  Contracts of chapter 3 of the program: multiples of mirrors; mirrors of what all know.
-/
import Derived.Test.YtepobckhfodngaoGreatMirU
import Derived.Test.YtepobckhfodngaoGreatMirP
namespace Go.Proofs.YtepobckhfodngaoGreat
open Go.ChangeShapes Go.WideShapes Go.ChangeAt Go.RowKit
set_option linter.unusedVariables false

set_option maxHeartbeats 2000000 in
theorem impl_PlainMirror (q v : Int) (w : World) :
    Calls Tryz.prog 134 #[.int .i64 q, .int .i64 v] w fun e w' => ∃ u b0, e = .returned u ∧ OwMirrorResult w' u (mirrorOfR q [v, 0, 0, 0]) b0 ∧ (∀ y ∈ b0, w.heap.size ≤ y) ∧ Below w.heap.size w w' := by
  have Z0 := Blk.new w 102 #[.int .i64 0, .int .i64 0, .slice none 0 0]
  have B0 : Below w.heap.size w (w.alloc (.cells #[.int .i64 0, .int .i64 0, .slice none 0 0] 102)) := (by repeat (first | exact Below.refl _ _ | refine Below.drew ?_ | refine below_drewN ?_ _ | refine Below.setCell ?_ (by first | omega | (simp; done) | (simp; omega)) _ | refine Below.alloc ?_ (by first | omega | (simp; done) | (simp; omega)) _))
  have KL := fun w => impl_list [v, 0, 0, 0] w rfl
  rw [ag4] at KL
  have KM := fun u w h => impl_MirrorOf q u [v, 0, 0, 0] w h
  generalize mirrorOfR q [v, 0, 0, 0] = R at *
  go_enter Tryz.func134, Tryz.ntmps134
  go_wp2_with fail
  refine (KL _).mono ?_
  rintro e w1 ⟨g, rfl, hI, hg, hb1⟩
  have Z1 := Z0.keep hb1
  have B1 := B0.trans (hb1.mono B0.size)
  go_wp2_with fail
  refine (KM _ _ hI.reads).mono ?_
  rintro e w2 ⟨u, b0', rfl, hT, hf, hb2⟩
  obtain ⟨pp, cc, rfl⟩ := hT.shp
  have Z2 := Z1.keep hb2
  have zl := Z1.lt
  have B2 := B1.trans (hb2.mono B1.size)
  have hf' : ∀ y ∈ b0', w.heap.size < y := fun y hy => by have := hf y hy; omega
  have za := Z2.at.1
  have zb := Z2.at.2
  have OO : ∀ W, Off [w.heap.size] w2 W → (∃ u b0, Ending.returned (.agg #[.int .i64 R.xCode, .int .i64 R.xMirror.xQ, .slice pp R.xMirror.xViews.length cc]) = .returned u ∧ OwMirrorResult W u R b0 ∧ (∀ y ∈ b0, w.heap.size ≤ y) ∧ Below w.heap.size w W) := fun W OO => ⟨_, b0', rfl, hT.off OO (fun x hx hm => by have := hf' x hx; simp at hm; omega), fun y hy => by have := hf' y hy; omega, B2.trans (OO.toBelow B2.size (by simp))⟩
  clear Z0 B0 Z1 B1 hT hf hf' hb2 hI hb1
  go_wp2
  exact bodyPost_ret (v := .agg #[.int .i64 R.xCode, .int .i64 R.xMirror.xQ, .slice pp R.xMirror.xViews.length cc]) (by simp [results, Tryz.results134, go_sem, za]) rfl (OO _ ((((Off.refl _ _).setCell _ _ (by simp)).setCell _ _ (by simp)).setCell _ _ (by simp)))
end Go.Proofs.YtepobckhfodngaoGreat
