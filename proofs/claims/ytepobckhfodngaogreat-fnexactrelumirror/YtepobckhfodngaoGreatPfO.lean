/-
  Faults of a net with one mirror, in the program.
-/
import Derived.Test.YtepobckhfodngaoGreatPf
import Derived.Test.YtepobckhfodngaoGreatJnZ
import Derived.Test.YtepobckhfodngaoGreatWhole
namespace Go.Proofs.YtepobckhfodngaoGreat
open Go.ChangeShapes Go.WideShapes Go.ChangeAt Go.RowKit
set_option linter.unusedVariables false
def ofC (q : Int) (n : MNet) (x : MMirror) : Int := if quietC n = 0 then oqC q x else quietC n
theorem ofC_zero {q : Int} {n : MNet} {x : MMirror} (h : ofC q n x = 0) : quietC n = 0 ∧ oqC q x = 0 := by
  unfold ofC at h
  by_cases h1 : quietC n = 0
  · rw [if_pos h1] at h
    exact ⟨h1, h⟩
  · rw [if_neg h1] at h
    exact absurd h h1
set_option maxHeartbeats 4000000 in
set_option maxRecDepth 100000 in
theorem impl_oneFault (q : Int) (vn : Value) (n : MNet) (v : Value) (x : MMirror) (w : World) (hn : RdNet w vn n) (hv : RdMirror w v x) :
    Calls Tryz.prog 39 #[vn, .int .i64 q, v] w fun e w' => e = .returned (.int .i64 (ofC q n x)) ∧ Below w.heap.size w w' := by
  have KQ := fun W (hb : Below w.heap.size w W) => impl_quietFault vn n W (hn.below hb)
  obtain ⟨cs, rfl, R⟩ := hn.row
  obtain ⟨pa, ca, rfl, ga⟩ := hv
  have hR := R.hi (P := Tryz.prog) (T := 41) (by kernel_rfl)
  have B0 : Below w.heap.size w ((w.alloc (.cells cs 41)).alloc (.cells #[.int .i64 x.xQ, .slice pa x.xViews.length ca] 36)) := ((Below.refl _ _).alloc (Nat.le_refl _) _).alloc ((Below.refl _ _).alloc (Nat.le_refl _) _).size _
  have N0 : Blk ((w.alloc (.cells cs 41)).alloc (.cells #[.int .i64 x.xQ, .slice pa x.xViews.length ca] 36)) w.heap.size 41 cs := (Blk.new w _ _).alloc _
  have X0 : Blk ((w.alloc (.cells cs 41)).alloc (.cells #[.int .i64 x.xQ, .slice pa x.xViews.length ca] 36)) (w.heap.size + 1) 36 #[.int .i64 x.xQ, .slice pa x.xViews.length ca] := by simpa using Blk.new (w.alloc (.cells cs 41)) 36 #[.int .i64 x.xQ, .slice pa x.xViews.length ca]
  by_cases h1 : quietC n = 0
  · have HR : Hid (ofC q n x = oqC q x) := if_pos h1
    rw [h1] at KQ
    clear h1 hn
    go_enter Tryz.func39, Tryz.ntmps39
    go_wp2_with (refine wpList_load_blk rfl 41 _ rfl w.heap.size rfl N0 Tryz.underlying41 rfl hR ?_)
    refine (KQ _ B0).mono ?_
    rintro e w1 ⟨rfl, hb1⟩
    have B1 := B0.trans (hb1.mono B0.size)
    have X1 := X0.keep hb1
    have KM := impl_mirrorsFault1 q x pa ca w1.heap.size w1 rfl (ga.below B1)
    clear N0 X0 B0 KQ ga
    go_wp2_with (refine wpList_load_blk rfl 36 _ rfl (w.heap.size + 1) rfl X1 Tryz.underlying36 rfl (by kernel_rfl) ?_)
    refine KM.mono ?_
    rintro e w2 ⟨rfl, hb2⟩
    have B2 := B1.trans (hb2.mono B1.size)
    clear X1 KM
    go_wp2
    go_ret
    exact ⟨by rw [HR.out]; rfl, B2⟩
  · have HR : Hid (ofC q n x = quietC n) := if_neg h1
    have hne : (quietC n != 0) = true := by simpa using h1
    generalize quietC n = r at *
    clear h1 hn ga
    go_enter Tryz.func39, Tryz.ntmps39
    go_wp2_with (refine wpList_load_blk rfl 41 _ rfl w.heap.size rfl N0 Tryz.underlying41 rfl hR ?_)
    refine (KQ _ B0).mono ?_
    rintro e w1 ⟨rfl, hb1⟩
    have B1 := B0.trans (hb1.mono B0.size)
    clear N0 X0 B0 KQ
    go_wp2
    go_ret
    exact ⟨by rw [HR.out]; rfl, B1⟩
end Go.Proofs.YtepobckhfodngaoGreat
