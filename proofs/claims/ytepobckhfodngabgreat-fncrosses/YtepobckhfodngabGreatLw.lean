/-
  Contracts of the laws' own small helpers.
-/
import Derived.Test.YtepobckhfodngabGreatSrc
import Derived.Test.YtepobckhfodngabGreatRing
namespace Go.Proofs.YtepobckhfodngabGreat
open Go.ChangeShapes Go.WideShapes Go.ChangeAt Go.RowKit
set_option linter.unusedVariables false

theorem bytes_of {xs : List Int} (h : ∀ n ∈ xs, (Lit.int .u8 n).wf = true) : ∀ i, 0 ≤ xs.getD i 0 ∧ xs.getD i 0 ≤ 255 := by
  intro i
  by_cases hi : i < xs.length
  · have := h xs[i] (List.getElem_mem hi)
    have b := bounds_u8 this
    simpa [hi] using b
  · simp [List.getD_eq_getElem?_getD, List.getElem?_eq_none (Nat.le_of_not_lt hi)]
theorem lwBig_no (a : Option Addr) (n cap : Nat) (w : World) (h : n ≤ 1048576) : Calls Tryz.prog 5 #[.slice a n cap] w fun e w' => e = .returned (.bool false) ∧ w = w' := by
  have hd : decide ((1048576 : Int) < (n : Int)) = false := by simp; omega
  go_enter Tryz.func5, Tryz.ntmps5
  go_wp2
  go_ret
  exact ⟨rfl, rfl⟩
theorem lwBig_yes (a : Option Addr) (n cap : Nat) (w : World) (h : 1048576 < n) : Calls Tryz.prog 5 #[.slice a n cap] w fun e w' => e = .returned (.bool true) ∧ w = w' := by
  have hd : decide ((1048576 : Int) < (n : Int)) = true := by simp; omega
  go_enter Tryz.func5, Tryz.ntmps5
  go_wp2
  go_ret
  exact ⟨rfl, rfl⟩
theorem lwMod_at (q v : Int) (w : World) (hq : 1 ≤ q) (hq' : q ≤ 256) : Calls Tryz.prog 13 #[.int .i64 q, .int .i64 v] w fun e w' => e = .returned (.int .i64 (v % q)) ∧ w = w' := by
  have h1 : -q < v.tmod q := by have := Int.lt_tmod_of_pos v (show 0 < q by omega); omega
  have h2 : v.tmod q < q := Int.tmod_lt_of_pos v (by omega)
  have hm := mod_twice (v := v) (show 0 < q by omega)
  rw [← hm]
  clear hm
  go_enter Tryz.func13, Tryz.ntmps13
  go_wp2
  go_ret
  exact ⟨rfl, rfl⟩
/-- what lwAt answers -/
def InA (n r : Int) : Prop := (2 ≤ n → 0 ≤ r ∧ r < n) ∧ (n < 2 → r = 0)
theorem InA.mod {n v : Int} (h : 2 ≤ n) (hv : 0 ≤ v) : InA n (v % n) := ⟨fun _ => ⟨Int.emod_nonneg _ (by omega), Int.emod_lt_of_pos _ (by omega)⟩, fun k => by omega⟩
end Go.Proofs.YtepobckhfodngabGreat
