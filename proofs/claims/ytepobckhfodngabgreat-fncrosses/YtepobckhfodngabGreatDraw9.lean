/-
  Contracts of what the laws draw for chapter 6: mirrors that are opened, and parts.
-/
import Derived.Test.YtepobckhfodngabGreatDraw3b
namespace Go.Proofs.YtepobckhfodngabGreat
open Go.ChangeShapes Go.WideShapes Go.ChangeAt Go.RowKit
set_option linter.unusedVariables false
theorem spec_l1Later (a : Option Addr) (cap : Nat) (zs : List Int) (n : Nat) (w : World) (hr : Reads w .u8 (.slice a zs.length cap) zs) (hl : zs.length ≤ 1048576) (hb : ∀ i, 0 ≤ zs.getD i 0 ∧ zs.getD i 0 ≤ 255) (hn : n ≤ 1000) :
    Calls Tryz.prog 62 #[.slice a zs.length cap, .int .i64 n] w fun e w' => e = .returned (.pointer (some ⟨w.heap.size, 0, none⟩)) ∧ Src w' w.heap.size a cap zs (5 + 7 * n) ∧ Below w.heap.size w w' := by
  have s0 : Src (w.alloc (.cells #[.slice a zs.length cap, .int .i64 ((5 + 7 * n : Nat) : Int)] 110)) w.heap.size a cap zs (5 + 7 * n) := by
    refine ⟨Blk.new w _ _, hl, hb, fun hz => ?_⟩
    obtain ⟨a', cap', hv, _, hc⟩ := hr
    simp at hv
    obtain ⟨rfl, rfl⟩ := hv
    obtain ⟨g, off, ha, hlt, hcell⟩ := hc hz
    exact ⟨g, off, ha, by omega, by simp; omega, fun i hi => (((Below.refl w.heap.size w).alloc (Nat.le_refl _) _).cell (p := ⟨g, off + i, none⟩) hlt).trans (hcell i hi)⟩
  rw [show ((5 + 7 * n : Nat) : Int) = 5 + 7 * (n : Int) by omega] at s0
  go_enter Tryz.func62, Tryz.ntmps62
  go_wp2
  go_ret
  exact ⟨rfl, s0, (by repeat (first | exact Below.refl _ _ | refine Below.drew ?_ | refine below_drewN ?_ _ | refine Below.setCell ?_ (by first | omega | (simp; done) | (simp; omega)) _ | refine Below.alloc ?_ (by first | omega | (simp; done) | (simp; omega)) _))⟩
theorem Off.past {bs cs : List Nat} {a b c : World} (h : Off bs a b) (k : Off cs b c) (hc : ∀ z ∈ cs, a.heap.size ≤ z) : Off bs a c :=
  ⟨k.os.trans h.os, k.tape.trans h.tape, k.output.trans h.output, Nat.le_trans h.size k.size, fun i hi hn => (k.block i (Nat.lt_of_lt_of_le hi h.size) (fun hm => by have := hc i hm; omega)).trans (h.block i hi hn)⟩
/-- some mirror that is drawn -/
def Drawn (w0 : World) (b : Nat) (a : Option Addr) (cap : Nat) (zs : List Int) (k : Nat) (u : Value) (w' : World) : Prop := ∃ x : MMirror, (∀ W cs, Off cs w' W → (∀ z ∈ cs, z < w0.heap.size) → RdMirror W u x) ∧ (∃ j, j ≤ 12 ∧ Src w' b a cap zs (k + j)) ∧ Off [b] w0 w'
theorem Drawn.own {w0 W : World} {b : Nat} {a : Option Addr} {cap : Nat} {zs : List Int} {k j : Nat} {Q : Int} {p : Option Addr} {c : Nat} {xss : List (List Int)} {bs : List Nat} (hM : Mat W (.slice p 4 c) xss bs) (hs : Sq xss) (hb : ∀ y ∈ bs, w0.heap.size ≤ y) (hj : j ≤ 12) (s : Src W b a cap zs (k + j)) (o : Off [b] w0 W) : Drawn w0 b a cap zs k (.agg #[.int .i64 Q, .slice p 4 c]) W :=
  ⟨⟨Q, xss⟩, fun W' cs o' hc => ⟨p, c, by rw [hs.1], by rw [hs.1]; exact (hM.off o' (fun y hy hm => by have := hb y hy; have := hc y hm; omega)).reads⟩, ⟨j, hj, s⟩, o⟩
end Go.Proofs.YtepobckhfodngabGreat
