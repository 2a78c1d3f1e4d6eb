/-
  Contracts of the ring's functions, of the program and of its model: each answers the same plain function of its numbers, and nothing that was there has turned.
-/
import Derived.Test.YtepobckhfodngaoGreatBase
namespace Go.Proofs.YtepobckhfodngaoGreat
open Go.ChangeShapes Go.WideShapes Go.ChangeAt Go.RowKit
set_option linter.unusedVariables false

theorem field_0 (x y : Value) (w : World) : (Instr.field 178 (.agg #[x, y]) 0).run Tryz.prog w = .ok x w := by kernel_rfl
theorem field_1 (x y : Value) (w : World) : (Instr.field 178 (.agg #[x, y]) 1).run Tryz.prog w = .ok y w := by kernel_rfl

theorem spec_l1In_yes (v lo hi : Int) (w : World) (h : lo ≤ v) (h' : v ≤ hi) : Calls Tryz.prog 103 #[.int .i64 v, .int .i64 lo, .int .i64 hi] w fun e w' => e = .returned (.bool true) ∧ w = w' := by
  go_enter Tryz.func103, Tryz.ntmps103
  go_wp2
  go_ret
  exact ⟨rfl, rfl⟩
theorem spec_l1In_no (v lo hi : Int) (w : World) (h : v < lo ∨ hi < v) : Calls Tryz.prog 103 #[.int .i64 v, .int .i64 lo, .int .i64 hi] w fun e w' => e = .returned (.bool false) ∧ w = w' := by
  by_cases h1 : v < lo
  · have hd : decide (lo ≤ v) = false := by simpa using h1
    go_enter Tryz.func103, Tryz.ntmps103
    go_wp2
    go_ret
    exact ⟨rfl, rfl⟩
  · have hd : decide (v ≤ hi) = false := by simp; omega
    have h2 : lo ≤ v := by omega
    clear h h1
    go_enter Tryz.func103, Tryz.ntmps103
    go_wp2
    go_ret
    exact ⟨rfl, rfl⟩
theorem spec_l1Has_yes (q v : Int) (w : World) (hq : 1 ≤ q) (hq' : q ≤ 256) (h : 0 ≤ v) (h' : v < q) : Calls Tryz.prog 83 #[.int .i64 q, .int .i64 v] w fun e w' => e = .returned (.bool true) ∧ w = w' := by
  go_enter Tryz.func83, Tryz.ntmps83
  go_wp2_with fail
  refine (spec_l1In_yes _ _ _ _ (by omega) (by omega)).mono ?_
  rintro e w' ⟨rfl, rfl⟩
  go_wp2
  go_ret
  exact ⟨rfl, rfl⟩
theorem spec_l1Has_no (q v : Int) (w : World) (hq : 1 ≤ q) (hq' : q ≤ 256) (h : v < 0 ∨ q ≤ v) : Calls Tryz.prog 83 #[.int .i64 q, .int .i64 v] w fun e w' => e = .returned (.bool false) ∧ w = w' := by
  go_enter Tryz.func83, Tryz.ntmps83
  go_wp2_with fail
  refine (spec_l1In_no _ _ _ _ (by omega)).mono ?_
  rintro e w' ⟨rfl, rfl⟩
  go_wp2
  go_ret
  exact ⟨rfl, rfl⟩
theorem impl_isElement_yes (q v : Int) (w : World) (h : 0 ≤ v) (h' : v < q) : Calls Tryz.prog 133 #[.int .i64 q, .int .i64 v] w fun e w' => e = .returned (.bool true) ∧ w = w' := by
  go_enter Tryz.func133, Tryz.ntmps133
  go_wp2
  go_ret
  exact ⟨rfl, rfl⟩
theorem impl_isElement_no (q v : Int) (w : World) (h : v < 0 ∨ q ≤ v) : Calls Tryz.prog 133 #[.int .i64 q, .int .i64 v] w fun e w' => e = .returned (.bool false) ∧ w = w' := by
  by_cases h1 : v < 0
  · have hd : decide (0 ≤ v) = false := by simpa using h1
    go_enter Tryz.func133, Tryz.ntmps133
    go_wp2
    go_ret
    exact ⟨rfl, rfl⟩
  · have hd : decide (v < q) = false := by simp; omega
    have h2 : 0 ≤ v := by omega
    clear h h1
    go_enter Tryz.func133, Tryz.ntmps133
    go_wp2
    go_ret
    exact ⟨rfl, rfl⟩

def sgC (v : Int) : Int := if 0 ≤ v ∧ v ≤ 255 then 0 else 3
def sgV (v : Int) : Int := if 0 ≤ v ∧ v ≤ 255 then (if v < 128 then v else v - 256) else 0
theorem sg_out {v : Int} (h : v < 0 ∨ 255 < v) : sgC v = 3 ∧ sgV v = 0 := by
  unfold sgC sgV; rw [if_neg (by omega), if_neg (by omega)]; exact ⟨rfl, rfl⟩
theorem sg_low {v : Int} (h : 0 ≤ v) (h' : v < 128) : sgC v = 0 ∧ sgV v = v := by
  unfold sgC sgV; rw [if_pos (by omega), if_pos (by omega), if_pos (by omega)]; exact ⟨rfl, rfl⟩
theorem sg_high {v : Int} (h : 128 ≤ v) (h' : v ≤ 255) : sgC v = 0 ∧ sgV v = v - 256 := by
  unfold sgC sgV; rw [if_pos (by omega), if_pos (by omega), if_neg (by omega)]; exact ⟨rfl, rfl⟩
theorem sg_cases (v : Int) : (v < 0) ∨ (255 < v) ∨ (0 ≤ v ∧ v < 128) ∨ (128 ≤ v ∧ v ≤ 255) := by omega


def roC (n : Int) : Int := if -128 ≤ n ∧ n ≤ 127 then 0 else 3
def roV (n : Int) : Int := if -128 ≤ n ∧ n ≤ 127 then (if n < 0 then n + 256 else n) else 0
theorem ro_out {v : Int} (h : v < -128 ∨ 127 < v) : roC v = 3 ∧ roV v = 0 := by
  unfold roC roV; rw [if_neg (by omega), if_neg (by omega)]; exact ⟨rfl, rfl⟩
theorem ro_low {v : Int} (h : -128 ≤ v) (h' : v < 0) : roC v = 0 ∧ roV v = v + 256 := by
  unfold roC roV; rw [if_pos (by omega), if_pos (by omega), if_pos (by omega)]; exact ⟨rfl, rfl⟩
theorem ro_high {v : Int} (h : 0 ≤ v) (h' : v ≤ 127) : roC v = 0 ∧ roV v = v := by
  unfold roC roV; rw [if_pos (by omega), if_pos (by omega), if_neg (by omega)]; exact ⟨rfl, rfl⟩
theorem ro_cases (v : Int) : (v < -128) ∨ (127 < v) ∨ (-128 ≤ v ∧ v < 0) ∨ (0 ≤ v ∧ v ≤ 127) := by omega

/-- what q leaves of a number that Go's own rest has been taken of first -/
theorem mod_twice {q v : Int} (hq : 0 < q) : (v.tmod q + q) % q = v % q := by
  rw [Int.add_emod_right]
  have h := Int.tmod_add_mul_tdiv v q
  conv => rhs; rw [← h]
  rw [Int.add_mul_emod_self_left]
theorem spec_l1Mod (q v : Int) (w : World) (hq : 1 ≤ q) (hq' : q ≤ 256) : Calls Tryz.prog 90 #[.int .i64 q, .int .i64 v] w fun e w' => e = .returned (.int .i64 (v % q)) ∧ w = w' := by
  have h1 : -q < v.tmod q := by have := Int.lt_tmod_of_pos v (show 0 < q by omega); omega
  have h2 : v.tmod q < q := Int.tmod_lt_of_pos v (by omega)
  have hm := mod_twice (v := v) (show 0 < q by omega)
  rw [← hm]
  clear hm
  go_enter Tryz.func90, Tryz.ntmps90
  go_wp2
  go_ret
  exact ⟨rfl, rfl⟩


/-- q is a ring's and both are elements of it -/
def okR (q a b : Int) : Prop := (q = 2 ∨ q = 256) ∧ 0 ≤ a ∧ a < q ∧ 0 ≤ b ∧ b < q

theorem spec_l1Ring_yes (q : Int) (w : World) (h : q = 2 ∨ q = 256) : Calls Tryz.prog 82 #[.int .i64 q] w fun e w' => e = .returned (.bool true) ∧ w = w' := by
  rcases h with rfl | rfl
  all_goals
    go_enter Tryz.func82, Tryz.ntmps82
    go_wp2
    go_ret
    exact ⟨rfl, rfl⟩
theorem spec_l1Ring_no (q : Int) (w : World) (h : ¬ (q = 2 ∨ q = 256)) : Calls Tryz.prog 82 #[.int .i64 q] w fun e w' => e = .returned (.bool false) ∧ w = w' := by
  have g1 : (q == 2) = false := by simp; omega
  have g2 : (q == 256) = false := by simp; omega
  clear h
  go_enter Tryz.func82, Tryz.ntmps82
  go_wp2
  go_ret
  exact ⟨rfl, rfl⟩
theorem impl_isRing_yes (q : Int) (w : World) (h : q = 2 ∨ q = 256) : Calls Tryz.prog 117 #[.int .i64 q] w fun e w' => e = .returned (.bool true) ∧ w = w' := by
  rcases h with rfl | rfl
  all_goals
    go_enter Tryz.func117, Tryz.ntmps117
    go_wp2
    go_ret
    exact ⟨rfl, rfl⟩
theorem impl_isRing_no (q : Int) (w : World) (h : ¬ (q = 2 ∨ q = 256)) : Calls Tryz.prog 117 #[.int .i64 q] w fun e w' => e = .returned (.bool false) ∧ w = w' := by
  have g1 : (q == 2) = false := by simp; omega
  have g2 : (q == 256) = false := by simp; omega
  clear h
  go_enter Tryz.func117, Tryz.ntmps117
  go_wp2
  go_ret
  exact ⟨rfl, rfl⟩
end Go.Proofs.YtepobckhfodngaoGreat
