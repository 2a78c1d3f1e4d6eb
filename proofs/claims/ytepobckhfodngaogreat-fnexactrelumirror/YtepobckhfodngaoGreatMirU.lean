/-
  Contracts of chapter 3's model: multiples of mirrors; mirrors of what all know.
-/
import Derived.Test.YtepobckhfodngaoGreatMirY
import Derived.Deep.OwnRows
namespace Go.Proofs.YtepobckhfodngaoGreat
open Go.ChangeShapes Go.WideShapes Go.ChangeAt Go.RowKit
set_option linter.unusedVariables false

def scaleR (x : MMirror) (k : Int) : MMirrorResult := if mirC x.xQ x.xViews = 0 then (if 0 ≤ k ∧ k < x.xQ then ⟨0, ⟨x.xQ, opRows (fun x _ => x * k) x.xQ x.xViews x.xViews⟩⟩ else badR 3) else badR (mirC x.xQ x.xViews)
theorem scaleR_cnt (x : MMirror) (k : Int) : cntMirrorResult (scaleR x k) ≤ 268435456 := by
  unfold scaleR
  split
  · split
    · show sl (opRows (fun x _ => x * k) x.xQ x.xViews x.xViews) ≤ _
      rw [sl_opRows]; omega
    · show sl [] ≤ _; simp [sl]
  · show sl [] ≤ _; simp [sl]
theorem scaleR_fault {q : Int} {xss : List (List Int)} (k : Int) (h : mirC q xss ≠ 0) : scaleR ⟨q, xss⟩ k = badR (mirC q xss) := if_neg h
theorem scaleR_k {q : Int} {xss : List (List Int)} {k : Int} (h : mirC q xss = 0) (hk : ¬ (0 ≤ k ∧ k < q)) : scaleR ⟨q, xss⟩ k = badR 3 := by unfold scaleR; rw [if_pos h, if_neg hk]
theorem scaleR_ok {q : Int} {xss : List (List Int)} {k : Int} (h : mirC q xss = 0) (hk : 0 ≤ k ∧ k < q) : scaleR ⟨q, xss⟩ k = ⟨0, ⟨q, opRows (fun x _ => x * k) q xss xss⟩⟩ := by unfold scaleR; rw [if_pos h, if_pos hk]
theorem mirRows_zero : mirRows [0, 0, 0, 0] = zero4 := rfl
theorem pt_zero4 (i j : Nat) : pt zero4 i j = 0 := by
  unfold pt
  by_cases hi : i < 4
  · obtain rfl | rfl | rfl | rfl : i = 0 ∨ i = 1 ∨ i = 2 ∨ i = 3 := by omega
    all_goals
      show ([0, 0, 0, 0] : List Int).getD j 0 = 0
      by_cases hj : j < 4
      · obtain rfl | rfl | rfl | rfl : j = 0 ∨ j = 1 ∨ j = 2 ∨ j = 3 := by omega
        all_goals rfl
      · rw [List.getD_eq_getElem?_getD, List.getElem?_eq_none (by simp; omega)]; rfl
  · have : zero4.getD i [] = [] := by rw [List.getD_eq_getElem?_getD, List.getElem?_eq_none (by simp [zero4]; omega)]; rfl
    rw [this]; rfl
theorem mixRows_scale (q k : Int) (xss : List (List Int)) : mixRows q zero4 xss k = opRows (fun x _ => x * k) q xss xss := by
  unfold mixRows mixRow opRows
  refine List.map_congr_left fun i _ => List.map_congr_left fun j _ => ?_
  unfold mixAt
  rw [pt_zero4, Int.zero_add, Int.mul_comm]
theorem fieldM_1 (x y : Value) (w : World) : (Instr.field 36 (.agg #[x, y]) 1).run Tryz.prog w = .ok y w := by kernel_rfl
theorem Four.zero {w : World} {b : Nat} {q : Int} {p : Option Addr} {c : Nat} {bs : List Nat} (hb : Blk w b 36 #[.int .i64 q, .slice p 4 c]) (hM : Mat w (.slice p 4 c) zero4 bs) : Four w b q zero4 :=
  ⟨_, hb, hM.reads, rfl, (Sq.of 0 0 0 0 0 0 0 0 0 0 0 0 0 0 0 0).2, fun i j => by rw [pt_zero4]; omega⟩
theorem plain_ok {q v : Int} (hq : isQ q) (hv : 0 ≤ v ∧ v < q) : mirrorOfR q [v, 0, 0, 0] = ⟨0, ⟨q, mirRows [v, 0, 0, 0]⟩⟩ := by
  have : okV q [v, 0, 0, 0] = true := by
    have : 0 < q := by rcases hq with h | h <;> omega
    simp [okV, hv.1, hv.2, this]
  unfold mirrorOfR
  rw [if_pos hq, if_pos (show ([v, 0, 0, 0] : List Int).length = 4 from rfl), if_pos this]
theorem plain_v {q v : Int} (hq : isQ q) (hv : ¬ (0 ≤ v ∧ v < q)) : mirrorOfR q [v, 0, 0, 0] = badR 3 := by
  have : ¬ okV q [v, 0, 0, 0] = true := by
    intro h
    have := (okV_iff q [v, 0, 0, 0]).1 h 0 (by simp)
    exact hv (by simpa using this)
  unfold mirrorOfR
  rw [if_pos hq, if_pos (show ([v, 0, 0, 0] : List Int).length = 4 from rfl), if_neg this]
theorem plain_q {q v : Int} (hq : ¬ isQ q) : mirrorOfR q [v, 0, 0, 0] = badR 3 := by unfold mirrorOfR; rw [if_neg hq]
set_option maxHeartbeats 2000000 in
theorem spec_l3Plain (q v : Int) (w : World) :
    Calls Tryz.prog 104 #[.int .i64 q, .int .i64 v] w fun e w' => ∃ u b0, e = .returned u ∧ OwMirror w' u ⟨q, mirRows [v, 0, 0, 0]⟩ b0 ∧ (∀ y ∈ b0, w.heap.size ≤ y) ∧ Below w.heap.size w w' := by
  have KO := fun u w h => spec_l3Of q u [v, 0, 0, 0] w h rfl
  have Y0 := (Blk.new w 36 #[.int .i64 0, .slice none 0 0]).alloc (.cells #[.int .i64 v, .int .i64 0, .int .i64 0, .int .i64 0] 2)
  have B0 : Below w.heap.size w ((w.alloc (.cells #[.int .i64 0, .slice none 0 0] 36)).alloc (.cells #[.int .i64 v, .int .i64 0, .int .i64 0, .int .i64 0] 2)) := (by repeat (first | exact Below.refl _ _ | refine Below.drew ?_ | refine below_drewN ?_ _ | refine Below.setCell ?_ (by first | omega | (simp; done) | (simp; omega)) _ | refine Below.alloc ?_ (by first | omega | (simp; done) | (simp; omega)) _))
  have hR1 : Reads ((w.alloc (.cells #[.int .i64 0, .slice none 0 0] 36)).alloc (.cells #[.int .i64 v, .int .i64 0, .int .i64 0, .int .i64 0] 2)) .i64 (.slice (some ⟨w.heap.size + 1, 0, none⟩) 4 4) [v, 0, 0, 0] := by
    have := Own.made (w.alloc (.cells #[.int .i64 0, .slice none 0 0] 36)) 2 1 #[.int .i64 v, .int .i64 0, .int .i64 0, .int .i64 0] 4 (by unfold maxLen; omega) rfl
    simpa using Own.reads (xs := [v, 0, 0, 0]) this
  go_enter Tryz.func104, Tryz.ntmps104
  go_wp2_with fail
  refine (KO _ _ (by exact hR1)).mono ?_
  rintro e w2 ⟨u, bo, rfl, hT, hf, hb2⟩
  obtain ⟨pp, cc, rfl, hM⟩ := hT
  have Y2 := Y0.keep hb2
  have yl := Y0.lt
  have B2 := B0.trans (hb2.mono B0.size)
  have hf' : ∀ y ∈ bo, w.heap.size < y := fun y hy => by have := hf y hy; omega
  have ya := Y2.at.1
  have yb := Y2.at.2
  have OO : ∀ W, Off [w.heap.size] w2 W → (∃ u b0, Ending.returned (.agg #[.int .i64 q, .slice pp (mirRows [v, 0, 0, 0]).length cc]) = .returned u ∧ OwMirror W u ⟨q, mirRows [v, 0, 0, 0]⟩ b0 ∧ (∀ y ∈ b0, w.heap.size ≤ y) ∧ Below w.heap.size w W) := fun W OO => ⟨_, bo, rfl, ⟨pp, cc, rfl, hM.off OO (fun x hx hm => by have := hf' x hx; simp at hm; omega)⟩, fun y hy => by have := hf' y hy; omega, B2.trans (OO.toBelow B2.size (by simp))⟩
  dsimp only
  clear hM hf hf' hb2 Y0 B0 Y2
  generalize (mirRows [v, 0, 0, 0]).length = n at *
  go_wp2
  exact bodyPost_ret (v := .agg #[.int .i64 q, .slice pp n cc]) (by simp [results, Tryz.results104, go_sem, ya]) rfl (OO _ (((Off.refl _ _).setCell _ _ (by simp)).setCell _ _ (by simp)))
end Go.Proofs.YtepobckhfodngaoGreat
