/-
  Contracts of chapter 4: what is told in a joint message, and what the three say of it: in the program and in its model.
-/
import Derived.Test.YtcnbkdpmcohlgamJnN
import Derived.Test.YtcnbkdpmcohlgamElem
import Derived.Test.YtcnbkdpmcohlgamWhole
namespace Go.Proofs.Ytcnbkdpmcohlgam
open Go.ChangeShapes Go.WideShapes Go.ChangeAt Go.RowKit
set_option linter.unusedVariables false

/-- what a party tells in a message of that number -/
def tellV (c : MCheat) (q at' who v : Int) : Int := if c.xWho = who ∧ c.xAt = at' then (v + c.xBy) % q else v
theorem tellV_yes {c : MCheat} {q at' who v : Int} (h : c.xWho = who) (k : c.xAt = at') : tellV c q at' who v = (v + c.xBy) % q := if_pos ⟨h, k⟩
theorem tellV_no1 {c : MCheat} {q at' who v : Int} (h : ¬ c.xWho = who) : tellV c q at' who v = v := if_neg (fun k => h k.1)
theorem tellV_no2 {c : MCheat} {q at' who v : Int} (h : ¬ c.xAt = at') : tellV c q at' who v = v := if_neg (fun k => h k.2)
theorem tellV_in {c : MCheat} {q at' who v : Int} (hq : q = 2 ∨ q = 256) (h : 0 ≤ v ∧ v < q) : 0 ≤ tellV c q at' who v ∧ tellV c q at' who v < q := by
  unfold tellV
  split
  · exact ⟨Int.emod_nonneg _ (by omega), Int.emod_lt_of_pos _ (by omega)⟩
  · exact h
/-- what a party says that it told -/
def standV (c : MCheat) (who right told : Int) : Int := if c.xWho = who ∧ c.xCry = true then told else right
theorem fieldIR_1 (x y : Value) (w : World) : (Instr.field 38 (.agg #[x, y]) 1).run Try.prog w = .ok y w := by kernel_rfl
theorem impl_turned (c : MCheat) (q v : Int) (w : World) (hq : q = 2 ∨ q = 256) (hv : 0 ≤ v ∧ v < q) (hy : 0 ≤ c.xBy ∧ c.xBy ≤ 255) : Calls Try.prog 89 #[.agg #[.int .i64 c.xWho, .int .i64 c.xAt, .int .i64 c.xBy, .bool c.xCry], .int .i64 q, .int .i64 v] w fun e w' => e = .returned (.int .i64 ((v + c.xBy) % q)) ∧ Below w.heap.size w w' := by
  have m1 : 0 ≤ c.xBy % q := Int.emod_nonneg _ (by omega)
  have m2 : c.xBy % q < q := Int.emod_lt_of_pos _ (by omega)
  have K := fun V => impl_AddRing_yes q v (c.xBy % q) V ⟨hq, hv.1, hv.2, m1, m2⟩
  rw [show (v + c.xBy % q) % q = (v + c.xBy) % q by simp] at K
  have fi := fieldIR_1
  have hne : q ≠ 0 := by omega
  have h0 := hy.1
  have ht : c.xBy.tmod q = c.xBy % q := Int.tmod_eq_emod_of_nonneg h0
  generalize (v + c.xBy) % q = r at *
  rcases hq with rfl | rfl
  · go_enter Try.func89, Try.ntmps89
    go_wp2_with fail
    refine (K _).mono ?_
    rintro e w1 ⟨rfl, hb1⟩
    go_wp2
    go_ret
    exact ⟨rfl, (by have zz0 := (hb1).size; (try simp at zz0); repeat (first | exact Below.refl _ _ | refine Below.drew ?_ | refine below_drewN ?_ _ | refine Below.setCell ?_ (by first | omega | (simp; done) | (simp; omega)) _ | refine Below.alloc ?_ (by first | omega | (simp; done) | (simp; omega)) _ | refine bcall ?_ hb1 (by first | omega | (simp; done) | (simp; omega))))⟩
  · go_enter Try.func89, Try.ntmps89
    go_wp2_with fail
    refine (K _).mono ?_
    rintro e w1 ⟨rfl, hb1⟩
    go_wp2
    go_ret
    exact ⟨rfl, (by have zz0 := (hb1).size; (try simp at zz0); repeat (first | exact Below.refl _ _ | refine Below.drew ?_ | refine below_drewN ?_ _ | refine Below.setCell ?_ (by first | omega | (simp; done) | (simp; omega)) _ | refine Below.alloc ?_ (by first | omega | (simp; done) | (simp; omega)) _ | refine bcall ?_ hb1 (by first | omega | (simp; done) | (simp; omega))))⟩
/-- does the one who compares cry out? -/
def cryB (c : MCheat) (to n : Int) : Bool := c.xCry && (to == c.xWho && decide (c.xAt ≤ n))
end Go.Proofs.Ytcnbkdpmcohlgam
