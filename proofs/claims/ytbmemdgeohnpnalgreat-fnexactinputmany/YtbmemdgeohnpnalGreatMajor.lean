/-
  Contracts of MajorityOf, of the program and of its model.
-/
import Derived.Test.YtbmemdgeohnpnalGreatRing
import Derived.Test.YtbmemdgeohnpnalGreatEq
namespace Go.Proofs.YtbmemdgeohnpnalGreat
open Go.ChangeShapes Go.WideShapes Go.ChangeAt Go.RowKit
set_option linter.unusedVariables false

/-- the code and the value of a majority -/
def major (xs : List Int) : Int × Int :=
  match xs with
  | [a, b, c] => if a = b ∨ a = c then (0, a) else if b = c then (0, b) else (4, 0)
  | _ => (2, 0)
theorem major_many (xs : List Int) (h : xs.length ≠ 3) : major xs = (2, 0) := by
  match xs, h with
  | [], _ => rfl
  | [_], _ => rfl
  | [_, _], _ => rfl
  | [_, _, _], h => simp at h
  | _ :: _ :: _ :: _ :: _, _ => rfl
theorem three_of (xs : List Int) (h : xs.length = 3) : ∃ a b c, xs = [a, b, c] := by
  match xs, h with
  | [a, b, c], _ => exact ⟨a, b, c, rfl⟩

theorem spec_l1Major (a b c : Int) (w : World) : Calls Tryz.prog 147 #[.int .i64 a, .int .i64 b, .int .i64 c] w fun e w' => e = .returned (.tuple #[.int .i64 (if a = b ∨ a = c then a else b), .bool (decide (a = b ∨ a = c ∨ b = c))]) ∧ w' = w := by
  by_cases h1 : a = b
  · have e1 : (a == b) = true := by simpa using h1
    rw [if_pos (.inl h1), decide_eq_true (.inl h1)]
    clear h1
    go_enter Tryz.func147, Tryz.ntmps147
    go_wp2
    go_ret2
    exact ⟨rfl, rfl⟩
  · have e1 : (a == b) = false := by simpa using h1
    by_cases h2 : a = c
    · have e2 : (a == c) = true := by simpa using h2
      rw [if_pos (.inr h2), decide_eq_true (.inr (.inl h2))]
      clear h1 h2
      go_enter Tryz.func147, Tryz.ntmps147
      go_wp2
      go_ret2
      exact ⟨rfl, rfl⟩
    · have e2 : (a == c) = false := by simpa using h2
      have e3 : decide (a = b ∨ a = c ∨ b = c) = (b == c) := by
        rw [Bool.eq_iff_iff]; simp [h1, h2]
      rw [if_neg (by omega), e3]
      clear h1 h2 e3
      go_enter Tryz.func147, Tryz.ntmps147
      go_wp2
      go_ret2
      exact ⟨rfl, rfl⟩

theorem major_a (a b c : Int) (h : a = b ∨ a = c) : major [a, b, c] = (0, a) := by unfold major; simp only [if_pos h]
theorem major_b (a b c : Int) (h : ¬ (a = b ∨ a = c)) (h' : b = c) : major [a, b, c] = (0, b) := by unfold major; simp only [if_neg h, if_pos h']
theorem major_n (a b c : Int) (h : ¬ (a = b ∨ a = c)) (h' : ¬ b = c) : major [a, b, c] = (4, 0) := by unfold major; simp only [if_neg h, if_neg h']
set_option maxHeartbeats 800000 in
theorem impl_MajorityOf (v : Value) (xs : List Int) (w : World) (hv : Reads w .i64 v xs) : Calls Tryz.prog 151 #[v] w fun e w' => e = .returned (.agg #[.int .i64 (major xs).1, .int .i64 (major xs).2]) ∧ Below w.heap.size w w' := by
  obtain ⟨ad, cap, rfl, hm, hA⟩ := hv
  by_cases hl : xs.length = 3
  · obtain ⟨a, b, c, rfl⟩ := three_of xs hl
    obtain ⟨g, o, rfl, hlt, hc⟩ := hA (by simp)
    have c0 := hc 0 (by simp)
    have c1 := hc 1 (by simp)
    have c2 := hc 2 (by simp)
    simp only [List.getD_cons_zero, List.getD_cons_succ, Nat.add_zero] at c0 c1 c2
    clear hc hA hl hm
    simp only [List.length_cons, List.length_nil]
    have hne : g ≠ w.heap.size := by omega
    by_cases h1 : a = b
    · rw [major_a a b c (.inl h1)]
      have e1 : (a == b) = true := by simpa using h1
      clear h1
      go_enter Tryz.func151, Tryz.ntmps151
      go_wp2
      go_quiet (fail)
      go_wp2
      exact bodyPost_ret (v := .agg #[.int .i64 0, .int .i64 a]) (by simp [results, Tryz.results151, go_sem]) rfl ⟨rfl, (by repeat (first | exact Below.refl _ _ | refine Below.drew ?_ | refine below_drewN ?_ _ | refine Below.setCell ?_ (by first | omega | (simp; done) | (simp; omega)) _ | refine Below.alloc ?_ (by first | omega | (simp; done) | (simp; omega)) _))⟩
    · have e1 : (a == b) = false := by simpa using h1
      by_cases h2 : a = c
      · rw [major_a a b c (.inr h2)]
        have e2 : (a == c) = true := by simpa using h2
        clear h1 h2
        go_enter Tryz.func151, Tryz.ntmps151
        go_wp2
        go_quiet (fail)
        go_wp2
        exact bodyPost_ret (v := .agg #[.int .i64 0, .int .i64 a]) (by simp [results, Tryz.results151, go_sem]) rfl ⟨rfl, (by repeat (first | exact Below.refl _ _ | refine Below.drew ?_ | refine below_drewN ?_ _ | refine Below.setCell ?_ (by first | omega | (simp; done) | (simp; omega)) _ | refine Below.alloc ?_ (by first | omega | (simp; done) | (simp; omega)) _))⟩
      · have e2 : (a == c) = false := by simpa using h2
        by_cases h3 : b = c
        · rw [major_b a b c (by omega) h3]
          have e3 : (b == c) = true := by simpa using h3
          clear h1 h2 h3
          go_enter Tryz.func151, Tryz.ntmps151
          go_wp2
          go_quiet (fail)
          go_wp2
          go_quiet (fail)
          go_wp2
          exact bodyPost_ret (v := .agg #[.int .i64 0, .int .i64 b]) (by simp [results, Tryz.results151, go_sem]) rfl ⟨rfl, (by repeat (first | exact Below.refl _ _ | refine Below.drew ?_ | refine below_drewN ?_ _ | refine Below.setCell ?_ (by first | omega | (simp; done) | (simp; omega)) _ | refine Below.alloc ?_ (by first | omega | (simp; done) | (simp; omega)) _))⟩
        · rw [major_n a b c (by omega) h3]
          have e3 : (b == c) = false := by simpa using h3
          clear h1 h2 h3
          go_enter Tryz.func151, Tryz.ntmps151
          go_wp2
          go_quiet (fail)
          go_wp2
          go_quiet (fail)
          go_wp2
          exact bodyPost_ret (v := .agg #[.int .i64 4, .int .i64 0]) (by simp [results, Tryz.results151, go_sem]) rfl ⟨rfl, (by repeat (first | exact Below.refl _ _ | refine Below.drew ?_ | refine below_drewN ?_ _ | refine Below.setCell ?_ (by first | omega | (simp; done) | (simp; omega)) _ | refine Below.alloc ?_ (by first | omega | (simp; done) | (simp; omega)) _))⟩
  · rw [major_many xs hl]
    have hne : ((xs.length : Int) == 3) = false := by simp; omega
    go_enter Tryz.func151, Tryz.ntmps151
    go_wp2
    exact bodyPost_ret (v := .agg #[.int .i64 2, .int .i64 0]) (by simp [results, Tryz.results151, go_sem]) rfl ⟨rfl, (by repeat (first | exact Below.refl _ _ | refine Below.drew ?_ | refine below_drewN ?_ _ | refine Below.setCell ?_ (by first | omega | (simp; done) | (simp; omega)) _ | refine Below.alloc ?_ (by first | omega | (simp; done) | (simp; omega)) _))⟩
end Go.Proofs.YtbmemdgeohnpnalGreat
