/-
  Contracts of chapter 3's model: multiples of mirrors; mirrors of what all know.
-/
import Derived.Test.YtepobckhfodngacGreatMirY
import Derived.Deep.OwnRows
namespace Go.Proofs.YtepobckhfodngacGreat
open Go.ChangeShapes Go.WideShapes Go.ChangeAt Go.RowKit
set_option linter.unusedVariables false

def scaleR (x : MMirror) (k : Int) : MMirrorResult := if mirC x.xQ x.xViews = 0 then (if 0 ≤ k ∧ k < x.xQ then ⟨0, ⟨x.xQ, opRows (fun x _ => x * k) x.xQ x.xViews x.xViews⟩⟩ else badR 3) else badR (mirC x.xQ x.xViews)
theorem scaleR_cnt (x : MMirror) (k : Int) : cntMirrorResult (scaleR x k) ≤ 268435456 := by
  unfold scaleR
  split
  · split
    · show sl (opRows (fun x _ => x * k) x.xQ x.xViews x.xViews) ≤ _
      rw [sl_opRows]; omega
    · show sl [] ≤ _; simp [sl]
  · show sl [] ≤ _; simp [sl]
theorem scaleR_fault {q : Int} {xss : List (List Int)} (k : Int) (h : mirC q xss ≠ 0) : scaleR ⟨q, xss⟩ k = badR (mirC q xss) := if_neg h
theorem scaleR_k {q : Int} {xss : List (List Int)} {k : Int} (h : mirC q xss = 0) (hk : ¬ (0 ≤ k ∧ k < q)) : scaleR ⟨q, xss⟩ k = badR 3 := by unfold scaleR; rw [if_pos h, if_neg hk]
theorem scaleR_ok {q : Int} {xss : List (List Int)} {k : Int} (h : mirC q xss = 0) (hk : 0 ≤ k ∧ k < q) : scaleR ⟨q, xss⟩ k = ⟨0, ⟨q, opRows (fun x _ => x * k) q xss xss⟩⟩ := by unfold scaleR; rw [if_pos h, if_pos hk]
theorem mirRows_zero : mirRows [0, 0, 0, 0] = zero4 := rfl
theorem pt_zero4 (i j : Nat) : pt zero4 i j = 0 := by
  unfold pt
  by_cases hi : i < 4
  · obtain rfl | rfl | rfl | rfl : i = 0 ∨ i = 1 ∨ i = 2 ∨ i = 3 := by omega
    all_goals
      show ([0, 0, 0, 0] : List Int).getD j 0 = 0
      by_cases hj : j < 4
      · obtain rfl | rfl | rfl | rfl : j = 0 ∨ j = 1 ∨ j = 2 ∨ j = 3 := by omega
        all_goals rfl
      · rw [List.getD_eq_getElem?_getD, List.getElem?_eq_none (by simp; omega)]; rfl
  · have : zero4.getD i [] = [] := by rw [List.getD_eq_getElem?_getD, List.getElem?_eq_none (by simp [zero4]; omega)]; rfl
    rw [this]; rfl
theorem mixRows_scale (q k : Int) (xss : List (List Int)) : mixRows q zero4 xss k = opRows (fun x _ => x * k) q xss xss := by
  unfold mixRows mixRow opRows
  refine List.map_congr_left fun i _ => List.map_congr_left fun j _ => ?_
  unfold mixAt
  rw [pt_zero4, Int.zero_add, Int.mul_comm]
theorem fieldM_1 (x y : Value) (w : World) : (Instr.field 35 (.agg #[x, y]) 1).run Tryz.prog w = .ok y w := by kernel_rfl
theorem Four.zero {w : World} {b : Nat} {q : Int} {p : Option Addr} {c : Nat} {bs : List Nat} (hb : Blk w b 35 #[.int .i64 q, .slice p 4 c]) (hM : Mat w (.slice p 4 c) zero4 bs) : Four w b q zero4 :=
  ⟨_, hb, hM.reads, rfl, (Sq.of 0 0 0 0 0 0 0 0 0 0 0 0 0 0 0 0).2, fun i j => by rw [pt_zero4]; omega⟩
theorem plain_ok {q v : Int} (hq : isQ q) (hv : 0 ≤ v ∧ v < q) : mirrorOfR q [v, 0, 0, 0] = ⟨0, ⟨q, mirRows [v, 0, 0, 0]⟩⟩ := by
  have : okV q [v, 0, 0, 0] = true := by
    have : 0 < q := by rcases hq with h | h <;> omega
    simp [okV, hv.1, hv.2, this]
  unfold mirrorOfR
  rw [if_pos hq, if_pos (show ([v, 0, 0, 0] : List Int).length = 4 from rfl), if_pos this]
theorem plain_v {q v : Int} (hq : isQ q) (hv : ¬ (0 ≤ v ∧ v < q)) : mirrorOfR q [v, 0, 0, 0] = badR 3 := by
  have : ¬ okV q [v, 0, 0, 0] = true := by
    intro h
    have := (okV_iff q [v, 0, 0, 0]).1 h 0 (by simp)
    exact hv (by simpa using this)
  unfold mirrorOfR
  rw [if_pos hq, if_pos (show ([v, 0, 0, 0] : List Int).length = 4 from rfl), if_neg this]
theorem plain_q {q v : Int} (hq : ¬ isQ q) : mirrorOfR q [v, 0, 0, 0] = badR 3 := by unfold mirrorOfR; rw [if_neg hq]
end Go.Proofs.YtepobckhfodngacGreat
