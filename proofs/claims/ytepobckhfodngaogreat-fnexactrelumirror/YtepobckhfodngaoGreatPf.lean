/-
  Faults of one mirror with a part, and of a net with one mirror, in the program.
-/
import Derived.Test.YtepobckhfodngaoGreatTy2
import Derived.Test.YtepobckhfodngaoGreatDotU
import Derived.Test.YtepobckhfodngaoGreatMirJ
import Derived.Test.YtepobckhfodngaoGreatTapeW
namespace Go.Proofs.YtepobckhfodngaoGreat
open Go.ChangeShapes Go.WideShapes Go.ChangeAt Go.RowKit
set_option linter.unusedVariables false

def oqC (q : Int) (x : MMirror) : Int := if mirC x.xQ x.xViews = 0 then (if x.xQ = q then 0 else 1) else mirC x.xQ x.xViews
theorem oqC_zero {q : Int} {x : MMirror} (h : oqC q x = 0) : mirC x.xQ x.xViews = 0 ∧ x.xQ = q := by
  unfold oqC at h
  by_cases h1 : mirC x.xQ x.xViews = 0
  · rw [if_pos h1] at h
    by_cases h2 : x.xQ = q
    · exact ⟨h1, h2⟩
    · rw [if_neg h2] at h
      exact absurd h (by decide)
  · rw [if_neg h1] at h
    exact absurd h h1
theorem lsC_oq (q : Int) (x : MMirror) : lsC q [[x]] = oqC q x := by
  have : mirsC q [x] = oqC q x := rfl
  rw [← this]
  unfold lsC
  split
  · rename_i h; rw [h]; rfl
  · rfl
def pfC (q : Int) (x : MMirror) (part : Int) : Int := if oqC q x = 0 then (if 0 ≤ part ∧ part ≤ 3 then 0 else 3) else oqC q x
theorem pfC_zero {q : Int} {x : MMirror} {part : Int} (h : pfC q x part = 0) : oqC q x = 0 ∧ 0 ≤ part ∧ part ≤ 3 := by
  unfold pfC at h
  by_cases h1 : oqC q x = 0
  · rw [if_pos h1] at h
    by_cases h2 : 0 ≤ part ∧ part ≤ 3
    · exact ⟨h1, h2⟩
    · rw [if_neg h2] at h
      exact absurd h (by decide)
  · rw [if_neg h1] at h
    exact absurd h h1
theorem RdMirrorS.one2 {W : World} {g : Nat} {m : MMirror} {p : Option Addr} {c : Nat} (h : Blk W g 36 #[.int .i64 m.xQ, .slice p m.xViews.length c]) (r : ReadsM W (.slice p m.xViews.length c) m.xViews) : RdMirrorS W (.slice (some ⟨g, 0, none⟩) 1 1) [m] :=
  ⟨some ⟨g, 0, none⟩, 1, rfl, by unfold maxLen; simp, fun _ => ⟨g, 0, rfl, h.lt, fun i hi => by
    obtain rfl : i = 0 := by simpa using hi
    exact ⟨p, c, h.at.1 0, h.at.1 1, r⟩⟩⟩
/-- one mirror in a list in a list, just made -/
theorem impl_mirrorsFault1 (q : Int) (x : MMirror) (pa : Option Addr) (ca g : Nat) (W : World) (hg : W.heap.size = g) (ga : ReadsM W (.slice pa x.xViews.length ca) x.xViews) :
    Calls Tryz.prog 67 #[.int .i64 q, .slice (some ⟨g + 1, 0, none⟩) 1 1] ((W.alloc (.cells #[.int .i64 x.xQ, .slice pa x.xViews.length ca] 36)).alloc (.cells #[.slice (some ⟨g, 0, none⟩) 1 1] 56)) fun e w' => e = .returned (.int .i64 (oqC q x)) ∧ Below W.heap.size W w' := by
  subst hg
  have B0 : Below W.heap.size W ((W.alloc (.cells #[.int .i64 x.xQ, .slice pa x.xViews.length ca] 36)).alloc (.cells #[.slice (some ⟨W.heap.size, 0, none⟩) 1 1] 56)) := ((Below.refl _ _).alloc (Nat.le_refl _) _).alloc ((Below.refl _ _).alloc (Nat.le_refl _) _).size _
  have S0 : Blk ((W.alloc (.cells #[.int .i64 x.xQ, .slice pa x.xViews.length ca] 36)).alloc (.cells #[.slice (some ⟨W.heap.size, 0, none⟩) 1 1] 56)) W.heap.size 36 #[.int .i64 x.xQ, .slice pa x.xViews.length ca] := (Blk.new W _ _).alloc _
  have L0 : Blk ((W.alloc (.cells #[.int .i64 x.xQ, .slice pa x.xViews.length ca] 36)).alloc (.cells #[.slice (some ⟨W.heap.size, 0, none⟩) 1 1] 56)) (W.heap.size + 1) 56 #[.slice (some ⟨W.heap.size, 0, none⟩) 1 1] := by simpa using Blk.new (W.alloc (.cells #[.int .i64 x.xQ, .slice pa x.xViews.length ca] 36)) 56 #[.slice (some ⟨W.heap.size, 0, none⟩) 1 1]
  have hls : RdLs ((W.alloc (.cells #[.int .i64 x.xQ, .slice pa x.xViews.length ca] 36)).alloc (.cells #[.slice (some ⟨W.heap.size, 0, none⟩) 1 1] 56)) (W.heap.size + 1) [[x]] := by
    refine ⟨L0.lt, fun t ht => ?_⟩
    obtain rfl : t = 0 := by simpa using ht
    exact ⟨some ⟨W.heap.size, 0, none⟩, 1, L0.at.1 0, RdMirrorS.one2 S0 (ga.below B0)⟩
  refine (impl_mirrorsFault q (W.heap.size + 1) 1 1 [[x]] _ hls rfl (by omega)).mono ?_
  rintro e w1 ⟨rfl, hb⟩
  exact ⟨by rw [lsC_oq], B0.trans (hb.mono B0.size)⟩
end Go.Proofs.YtepobckhfodngaoGreat
