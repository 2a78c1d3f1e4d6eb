/-
  Contracts of chapter 6 of the program: what a panic leaves where it is recovered; AgreeInput.
-/
import Derived.Test.YtcnbkdpmcohlgamTel
import Derived.Test.YtcnbkdpmcohlgamEl
namespace Go.Proofs.Ytcnbkdpmcohlgam
open Go.ChangeShapes Go.WideShapes Go.ChangeAt Go.RowKit
set_option linter.unusedVariables false
def AgrR (m : Int × Int) (e : Ending) : Prop := (m.1 = 0 ∧ e = .returned (.agg #[.int .i64 0, .int .i64 m.2])) ∨ (m.1 ≠ 0 ∧ ∃ pv, e = .panicked [{ v := .iface 9 pv, recovered := false }])
theorem catchI_panicking (a b : Nat) (x y : Int) (c d : Value) (u : TypeId) (pv : Value) (older : List PanicEntry) (w : World) (ha : Blk w a 38 #[.int .i64 x, .int .i64 y]) (hb : Blk w b 38 #[c, d]) (hne : a ≠ b) :
    CallsD Try.prog 81 #[.pointer (some ⟨a, 0, none⟩), .pointer (some ⟨b, 0, none⟩)] (.panicking ({ v := .iface u pv, recovered := false } :: older)) w fun e u' w' =>
      e = .returned (.tuple #[]) ∧ u' = .panicking ({ v := .iface u pv, recovered := true } :: older) ∧ w' = (w.setCell ⟨b, 0, none⟩ (.int .i64 x)).setCell ⟨b, 1, none⟩ (.int .i64 y) := by
  have a1 := ha.at.1
  have b1 := hb.at.1
  have b2 := hb.at.2
  refine callsD_of_wpS Try.func81 rfl fun c₀ cs hu => ?_
  apply wpS_seq
  apply wpS_region
  simp [wpOpsS, go_sem, recoverD, hu, Try.ntmps81, Exit.thenS]
  refine wpS_cond (t := true) (by simp [Act.eval, Array.replicate]) ?_
  simp only [if_true]
  apply wpS_region
  simp [wpOpsS, go_sem, a1, b1, b2, bodyPostS, results, Try.results81]
theorem catchI_idle (a b : Nat) (w : World) :
    CallsD Try.prog 81 #[.pointer (some ⟨a, 0, none⟩), .pointer (some ⟨b, 0, none⟩)] .returning w fun e u' w' => e = .returned (.tuple #[]) ∧ u' = .returning ∧ w' = w := by
  refine callsD_of_wpS Try.func81 rfl fun c₀ cs hu => ?_
  apply wpS_seq
  apply wpS_region
  simp [wpOpsS, go_sem, recoverD, hu, Try.ntmps81, Exit.thenS]
  refine wpS_cond (t := false) (by simp [Act.eval, Array.replicate]) ?_
  simp only [Bool.false_eq_true, if_false]
  refine wpS_of_wp (wp_skip ?_)
  cases c₀
  simp_all [bodyPostS, results, Try.results81]
/-- the code and the value of AgreeInput -/
def agreeR (xs : List Int) : Int × Int := if xs.length = 3 then (if okE 256 xs = true then (0, (major xs).2) else (3, 0)) else (2, 0)
theorem agreeR_many (xs : List Int) (h : xs.length ≠ 3) : agreeR xs = (2, 0) := by unfold agreeR; rw [if_neg h]
theorem agreeR_bad (xs : List Int) (h : xs.length = 3) (k : ¬ okE 256 xs = true) : agreeR xs = (3, 0) := by unfold agreeR; rw [if_pos h, if_neg k]
theorem agreeR_ok (xs : List Int) (h : xs.length = 3) (k : okE 256 xs = true) : agreeR xs = (0, (major xs).2) := by unfold agreeR; rw [if_pos h, if_pos k]
theorem major_no {xs : List Int} (h3 : xs.length = 3) (h : (major xs).1 ≠ 0) : (major xs).2 = 0 := by
  obtain ⟨a, b, c, rfl⟩ := three_of xs h3
  revert h
  simp only [major]
  split
  · intro h; exact absurd rfl h
  · split
    · intro h; exact absurd rfl h
    · intro _; rfl
theorem major_pick {xs : List Int} (h3 : xs.length = 3) : (if (major xs).1 = 0 then Value.agg #[.int .i64 0, .int .i64 (major xs).2] else .agg #[.int .i64 0, .int .i64 0]) = .agg #[.int .i64 0, .int .i64 (major xs).2] := by
  by_cases h : (major xs).1 = 0
  · rw [if_pos h]
  · rw [if_neg h, major_no h3 h]
theorem told4_three {xs : List Int} (h3 : xs.length = 3) : told4 3 (fun k => xs.getD k 0) 4 = xs := by
  obtain ⟨a, b, c, rfl⟩ := three_of xs h3
  rfl
end Go.Proofs.Ytcnbkdpmcohlgam
