/-
  Contracts of the program's elements, and of the ring's three operations, of the program and of its model.
-/
import Derived.Test.YtepobckhfodnganRing
namespace Go.Proofs.Ytepobckhfodngan
open Go.ChangeShapes Go.WideShapes Go.ChangeAt Go.RowKit
set_option linter.unusedVariables false

theorem impl_with (q x v : Int) (w : World) (hq : 1 ≤ q) (hq' : q ≤ 256) (hv : 0 ≤ v) (hv' : v ≤ 65535) : Calls Try.prog 83 #[.agg #[.int .u16 q, .int .u16 x], .int .u16 v] w fun e w' => e = .returned (.agg #[.int .u16 q, .int .u16 (v % q)]) ∧ Below w.heap.size w w' := by
  have hne : (q == 0) = false := by simp; omega
  go_enter Try.func83, Try.ntmps83
  go_wp2
  go_region
  all_goals
    go_wp2
    exact bodyPost_ret (v := .agg #[.int .u16 q, .int .u16 (v % q)]) (by simp [results, Try.results83, go_sem]) rfl ⟨rfl, (((Below.refl _ _).alloc (Nat.le_refl _) _).alloc (by simp) _).drew⟩
theorem impl_elementOf (q v : Int) (w : World) (hq : 0 ≤ q) (hq' : q ≤ 256) (hv : 0 ≤ v) (hv' : v ≤ 256) : Calls Try.prog 60 #[.int .i64 q, .int .i64 v] w fun e w' => e = .returned (.agg #[.int .u16 q, .int .u16 v]) ∧ Below w.heap.size w w' := by
  go_enter Try.func60, Try.ntmps60
  go_wp2
  exact bodyPost_ret (v := .agg #[.int .u16 q, .int .u16 v]) (by simp [results, Try.results60, go_sem]) rfl ⟨rfl, (Below.refl _ _).alloc (Nat.le_refl _) _⟩
theorem impl_result (q v : Int) (w : World) (hv : 0 ≤ v) (hv' : v ≤ 65535) : Calls Try.prog 73 #[.agg #[.int .u16 q, .int .u16 v]] w fun e w' => e = .returned (.agg #[.int .i64 0, .int .i64 v]) ∧ Below w.heap.size w w' := by
  go_enter Try.func73, Try.ntmps73
  go_wp2
  exact bodyPost_ret (v := .agg #[.int .i64 0, .int .i64 v]) (by simp [results, Try.results73, go_sem]) rfl ⟨rfl, ((Below.refl _ _).alloc (Nat.le_refl _) _).alloc (by simp) _⟩
theorem impl_plus (q x y : Int) (w : World) (hq : 1 ≤ q) (hq' : q ≤ 256) (hx : 0 ≤ x) (hx' : x < q) (hy : 0 ≤ y) (hy' : y < q) : Calls Try.prog 72 #[.agg #[.int .u16 q, .int .u16 x], .agg #[.int .u16 q, .int .u16 y]] w fun e w' => e = .returned (.agg #[.int .u16 q, .int .u16 ((x + y) % q)]) ∧ Below w.heap.size w w' := by
  go_enter Try.func72, Try.ntmps72
  go_wp2_with fail
  refine (impl_with _ _ _ _ hq hq' (by omega) (by omega)).mono ?_
  rintro e w1 ⟨rfl, hb⟩
  obtain ⟨hc, hf⟩ := bcell hb
  go_wp2
  exact bodyPost_ret (v := .agg #[.int .u16 q, .int .u16 ((x + y) % q)]) (by simp [results, Try.results72, go_sem, hc]) rfl ⟨rfl, (by have zz0 := (hb).size; (try simp at zz0); repeat (first | exact Below.refl _ _ | refine Below.drew ?_ | refine below_drewN ?_ _ | refine Below.setCell ?_ (by first | omega | (simp; done) | (simp; omega)) _ | refine Below.alloc ?_ (by first | omega | (simp; done) | (simp; omega)) _ | refine bcall ?_ hb (by first | omega | (simp; done) | (simp; omega))))⟩
end Go.Proofs.Ytepobckhfodngan
