/-
  Contracts of chapter 4: quarrels, the two that are told apart, and who is trusted: in the program and in its model.
-/
import Derived.Test.YtepobckhfodngabGreatBut
import Derived.Test.YtepobckhfodngabGreatRing
import Derived.BigQuiet
import Derived.Deep.RegionHeld3
import Derived.Laws.StructEq
namespace Go.Proofs.YtepobckhfodngabGreat
open Go.ChangeShapes Go.WideShapes Go.ChangeAt Go.RowKit
set_option linter.unusedVariables false


def Three (a b c : Int) : Prop := (0 ≤ a ∧ a ≤ 3) ∧ (0 ≤ b ∧ b ≤ 3) ∧ (0 ≤ c ∧ c ≤ 3) ∧ a ≠ b ∧ a ≠ c ∧ b ≠ c
instance (a b c : Int) : Decidable (Three a b c) := by unfold Three; infer_instance
def mn (a b : Int) : Int := if a < b then a else b
def mx (a b : Int) : Int := if b < a then a else b
/-- the two that are told apart -/
def qA (z : MQuarrel) : Int := if z.xHeard = z.xTold ∧ z.xOther = z.xVowed ∧ z.xTold ≠ z.xVowed then z.xFrom else z.xTo
def qB (z : MQuarrel) : Int := if z.xHeard = z.xTold ∧ (z.xOther ≠ z.xVowed ∨ z.xTold ≠ z.xVowed) then z.xCheck else z.xFrom
def judgeR (z : MQuarrel) : MPairResult := if z.xSome = true then (if Three z.xFrom z.xCheck z.xTo then ⟨0, mn (qA z) (qB z), mx (qA z) (qB z)⟩ else ⟨3, 0, 0⟩) else ⟨4, 0, 0⟩
/-- the lowest party that is none of two -/
def low (a b : Int) : Int := if a ≠ 0 ∧ b ≠ 0 then 0 else if a ≠ 1 ∧ b ≠ 1 then 1 else 2
def trustR (z : MQuarrel) : MIntResult := if (judgeR z).xCode = 0 then ⟨0, low (mn (qA z) (qB z)) (mx (qA z) (qB z))⟩ else ⟨(judgeR z).xCode, 0⟩
theorem low_at {a b : Int} {k : Nat} (h : ∀ j : Nat, j < k → ((j : Int) = a ∨ (j : Int) = b)) (ha : (k : Int) ≠ a) (hb : (k : Int) ≠ b) : low a b = k := by
  have hk : k ≤ 2 := by
    rcases Nat.lt_or_ge 2 k with hk | hk
    · have h0 := h 0 (by omega); have h1 := h 1 (by omega); have h2 := h 2 (by omega); omega
    · exact hk
  unfold low
  obtain rfl | rfl | rfl : k = 0 ∨ k = 1 ∨ k = 2 := by omega
  · rw [if_pos (by omega)]; rfl
  · have h0 := h 0 (by omega)
    rw [if_neg (by omega), if_pos (by omega)]; rfl
  · have h0 := h 0 (by omega); have h1 := h 1 (by omega)
    rw [if_neg (by omega), if_neg (by omega)]; rfl
theorem low_lt {a b : Int} {k : Nat} (h : ∀ j : Nat, j < k → ((j : Int) = a ∨ (j : Int) = b)) : k ≤ 2 := by
  rcases Nat.lt_or_ge 2 k with hk | hk
  · have h0 := h 0 (by omega); have h1 := h 1 (by omega); have h2 := h 2 (by omega); omega
  · exact hk
set_option maxHeartbeats 1000000 in
theorem impl_areThree_yes (a b c : Int) (w : World) (h : Three a b c) : Calls Tryz.prog 48 #[.int .i64 a, .int .i64 b, .int .i64 c] w fun e w' => e = .returned (.bool true) ∧ w = w' := by
  obtain ⟨h1, h2, h3, h4, h5, h6⟩ := h
  have e4 : (a != b) = true := by simpa using h4
  have e5 : (a != c) = true := by simpa using h5
  have e6 : (b != c) = true := by simpa using h6
  clear h4 h5 h6
  go_enter Tryz.func48, Tryz.ntmps48
  go_wp2_with fail
  refine (impl_isParty_yes _ _ h1).mono ?_
  rintro e w' ⟨rfl, rfl⟩
  go_wp2_with fail
  refine (impl_isParty_yes _ _ h2).mono ?_
  rintro e w' ⟨rfl, rfl⟩
  go_wp2_with fail
  refine (impl_isParty_yes _ _ h3).mono ?_
  rintro e w' ⟨rfl, rfl⟩
  go_wp2
  go_ret
  exact ⟨rfl, rfl⟩
set_option maxHeartbeats 1000000 in
theorem impl_areThree_no (a b c : Int) (w : World) (h : ¬ Three a b c) : Calls Tryz.prog 48 #[.int .i64 a, .int .i64 b, .int .i64 c] w fun e w' => e = .returned (.bool false) ∧ w = w' := by
  by_cases h1 : 0 ≤ a ∧ a ≤ 3
  · by_cases h2 : 0 ≤ b ∧ b ≤ 3
    · by_cases h3 : 0 ≤ c ∧ c ≤ 3
      · by_cases h4 : a = b
        · have e4 : (a != b) = false := by simpa using h4
          clear h h4
          go_enter Tryz.func48, Tryz.ntmps48
          go_wp2_with fail
          refine (impl_isParty_yes _ _ h1).mono ?_
          rintro e w' ⟨rfl, rfl⟩
          go_wp2_with fail
          refine (impl_isParty_yes _ _ h2).mono ?_
          rintro e w' ⟨rfl, rfl⟩
          go_wp2_with fail
          refine (impl_isParty_yes _ _ h3).mono ?_
          rintro e w' ⟨rfl, rfl⟩
          go_wp2
          go_ret
          exact ⟨rfl, rfl⟩
        · have e4 : (a != b) = true := by simpa using h4
          by_cases h5 : a = c
          · have e5 : (a != c) = false := by simpa using h5
            clear h h4 h5
            go_enter Tryz.func48, Tryz.ntmps48
            go_wp2_with fail
            refine (impl_isParty_yes _ _ h1).mono ?_
            rintro e w' ⟨rfl, rfl⟩
            go_wp2_with fail
            refine (impl_isParty_yes _ _ h2).mono ?_
            rintro e w' ⟨rfl, rfl⟩
            go_wp2_with fail
            refine (impl_isParty_yes _ _ h3).mono ?_
            rintro e w' ⟨rfl, rfl⟩
            go_wp2
            go_ret
            exact ⟨rfl, rfl⟩
          · have e5 : (a != c) = true := by simpa using h5
            have h6 : b = c := Decidable.byContradiction fun h6 => h ⟨h1, h2, h3, h4, h5, h6⟩
            have e6 : (b != c) = false := by simpa using h6
            clear h h4 h5 h6
            go_enter Tryz.func48, Tryz.ntmps48
            go_wp2_with fail
            refine (impl_isParty_yes _ _ h1).mono ?_
            rintro e w' ⟨rfl, rfl⟩
            go_wp2_with fail
            refine (impl_isParty_yes _ _ h2).mono ?_
            rintro e w' ⟨rfl, rfl⟩
            go_wp2_with fail
            refine (impl_isParty_yes _ _ h3).mono ?_
            rintro e w' ⟨rfl, rfl⟩
            go_wp2
            go_ret
            exact ⟨rfl, rfl⟩
      · clear h
        go_enter Tryz.func48, Tryz.ntmps48
        go_wp2_with fail
        refine (impl_isParty_yes _ _ h1).mono ?_
        rintro e w' ⟨rfl, rfl⟩
        go_wp2_with fail
        refine (impl_isParty_yes _ _ h2).mono ?_
        rintro e w' ⟨rfl, rfl⟩
        go_wp2_with fail
        refine (impl_isParty_no _ _ h3).mono ?_
        rintro e w' ⟨rfl, rfl⟩
        go_wp2
        go_ret
        exact ⟨rfl, rfl⟩
    · clear h
      go_enter Tryz.func48, Tryz.ntmps48
      go_wp2_with fail
      refine (impl_isParty_yes _ _ h1).mono ?_
      rintro e w' ⟨rfl, rfl⟩
      go_wp2_with fail
      refine (impl_isParty_no _ _ h2).mono ?_
      rintro e w' ⟨rfl, rfl⟩
      go_wp2
      go_ret
      exact ⟨rfl, rfl⟩
  · clear h
    go_enter Tryz.func48, Tryz.ntmps48
    go_wp2_with fail
    refine (impl_isParty_no _ _ h1).mono ?_
    rintro e w' ⟨rfl, rfl⟩
    go_wp2
    go_ret
    exact ⟨rfl, rfl⟩
theorem run_neqQ (s : Bool) (f c t a b d e a' b' d' e' : Int) (w : World) : (binOp .neq 31 (.agg #[.bool s, .int .i64 f, .int .i64 c, .int .i64 t, .int .i64 a, .int .i64 b, .int .i64 d, .int .i64 e]) (.agg #[.bool s, .int .i64 f, .int .i64 c, .int .i64 t, .int .i64 a', .int .i64 b', .int .i64 d', .int .i64 e'])).run Tryz.prog w = .ok (.bool (!((a == a') && ((b == b') && ((d == d') && (e == e')))))) w := by
  have hf : ∃ fs, Tryz.prog.underlying 31 = some (.struct fs) := ⟨_, Tryz.underlying31⟩
  simp [go_sem, Tryz.underlying31]
  by_cases h1 : a = a' <;> by_cases h2 : b = b' <;> by_cases h3 : d = d' <;> by_cases h4 : e = e' <;> simp [h1, h2, h3, h4]
theorem impl_bFrom (z : MQuarrel) (w : World) : Calls Tryz.prog 49 #[.agg #[.bool z.xSome, .int .i64 z.xFrom, .int .i64 z.xCheck, .int .i64 z.xTo, .int .i64 z.xTold, .int .i64 z.xHeard, .int .i64 z.xOther, .int .i64 z.xVowed]] w fun e w' => e = .returned (.agg #[.bool z.xSome, .int .i64 z.xFrom, .int .i64 z.xCheck, .int .i64 z.xTo, .int .i64 z.xTold, .int .i64 z.xTold, .int .i64 z.xOther, .int .i64 z.xVowed]) ∧ Below w.heap.size w w' := by
  go_enter Tryz.func49, Tryz.ntmps49
  go_wp2
  exact bodyPost_ret (v := .agg #[.bool z.xSome, .int .i64 z.xFrom, .int .i64 z.xCheck, .int .i64 z.xTo, .int .i64 z.xTold, .int .i64 z.xTold, .int .i64 z.xOther, .int .i64 z.xVowed]) (by simp [results, Tryz.results49, go_sem]) rfl ⟨rfl, (by repeat (first | exact Below.refl _ _ | refine Below.drew ?_ | refine below_drewN ?_ _ | refine Below.setCell ?_ (by first | omega | (simp; done) | (simp; omega)) _ | refine Below.alloc ?_ (by first | omega | (simp; done) | (simp; omega)) _))⟩
theorem impl_bCheck (z : MQuarrel) (w : World) : Calls Tryz.prog 51 #[.agg #[.bool z.xSome, .int .i64 z.xFrom, .int .i64 z.xCheck, .int .i64 z.xTo, .int .i64 z.xTold, .int .i64 z.xHeard, .int .i64 z.xOther, .int .i64 z.xVowed]] w fun e w' => e = .returned (.agg #[.bool z.xSome, .int .i64 z.xFrom, .int .i64 z.xCheck, .int .i64 z.xTo, .int .i64 z.xTold, .int .i64 z.xHeard, .int .i64 z.xVowed, .int .i64 z.xVowed]) ∧ Below w.heap.size w w' := by
  go_enter Tryz.func51, Tryz.ntmps51
  go_wp2
  exact bodyPost_ret (v := .agg #[.bool z.xSome, .int .i64 z.xFrom, .int .i64 z.xCheck, .int .i64 z.xTo, .int .i64 z.xTold, .int .i64 z.xHeard, .int .i64 z.xVowed, .int .i64 z.xVowed]) (by simp [results, Tryz.results51, go_sem]) rfl ⟨rfl, (by repeat (first | exact Below.refl _ _ | refine Below.drew ?_ | refine below_drewN ?_ _ | refine Below.setCell ?_ (by first | omega | (simp; done) | (simp; omega)) _ | refine Below.alloc ?_ (by first | omega | (simp; done) | (simp; omega)) _))⟩
theorem impl_bBoth (z : MQuarrel) (w : World) : Calls Tryz.prog 52 #[.agg #[.bool z.xSome, .int .i64 z.xFrom, .int .i64 z.xCheck, .int .i64 z.xTo, .int .i64 z.xTold, .int .i64 z.xHeard, .int .i64 z.xOther, .int .i64 z.xVowed]] w fun e w' => e = .returned (.agg #[.bool z.xSome, .int .i64 z.xFrom, .int .i64 z.xCheck, .int .i64 z.xTo, .int .i64 z.xVowed, .int .i64 z.xHeard, .int .i64 z.xOther, .int .i64 z.xVowed]) ∧ Below w.heap.size w w' := by
  go_enter Tryz.func52, Tryz.ntmps52
  go_wp2
  exact bodyPost_ret (v := .agg #[.bool z.xSome, .int .i64 z.xFrom, .int .i64 z.xCheck, .int .i64 z.xTo, .int .i64 z.xVowed, .int .i64 z.xHeard, .int .i64 z.xOther, .int .i64 z.xVowed]) (by simp [results, Tryz.results52, go_sem]) rfl ⟨rfl, (by repeat (first | exact Below.refl _ _ | refine Below.drew ?_ | refine below_drewN ?_ _ | refine Below.setCell ?_ (by first | omega | (simp; done) | (simp; omega)) _ | refine Below.alloc ?_ (by first | omega | (simp; done) | (simp; omega)) _))⟩
theorem impl_pairOf (a b : Int) (w : World) : Calls Tryz.prog 50 #[.int .i64 a, .int .i64 b] w fun e w' => e = .returned (.agg #[.int .i64 0, .int .i64 (mn a b), .int .i64 (mx a b)]) ∧ Below w.heap.size w w' := by
  rcases Int.lt_trichotomy a b with h | h | h
  · rw [show mn a b = a from if_pos h, show mx a b = b from if_neg (by omega)]
    have h1 : a ≤ b := by omega
    go_enter Tryz.func50, Tryz.ntmps50
    go_wp2
    exact bodyPost_ret (v := .agg #[.int .i64 0, .int .i64 a, .int .i64 b]) (by simp [results, Tryz.results50, go_sem]) rfl ⟨rfl, (by repeat (first | exact Below.refl _ _ | refine Below.drew ?_ | refine below_drewN ?_ _ | refine Below.setCell ?_ (by first | omega | (simp; done) | (simp; omega)) _ | refine Below.alloc ?_ (by first | omega | (simp; done) | (simp; omega)) _))⟩
  · subst h
    rw [show mn a a = a from if_neg (by omega), show mx a a = a from if_neg (by omega)]
    go_enter Tryz.func50, Tryz.ntmps50
    go_wp2
    exact bodyPost_ret (v := .agg #[.int .i64 0, .int .i64 a, .int .i64 a]) (by simp [results, Tryz.results50, go_sem]) rfl ⟨rfl, (by repeat (first | exact Below.refl _ _ | refine Below.drew ?_ | refine below_drewN ?_ _ | refine Below.setCell ?_ (by first | omega | (simp; done) | (simp; omega)) _ | refine Below.alloc ?_ (by first | omega | (simp; done) | (simp; omega)) _))⟩
  · rw [show mn a b = b from if_neg (by omega), show mx a b = a from if_pos h]
    have h1 : b ≤ a := by omega
    have h2 : ¬ a ≤ b := by omega
    go_enter Tryz.func50, Tryz.ntmps50
    go_wp2
    exact bodyPost_ret (v := .agg #[.int .i64 0, .int .i64 b, .int .i64 a]) (by simp [results, Tryz.results50, go_sem]) rfl ⟨rfl, (by repeat (first | exact Below.refl _ _ | refine Below.drew ?_ | refine below_drewN ?_ _ | refine Below.setCell ?_ (by first | omega | (simp; done) | (simp; omega)) _ | refine Below.alloc ?_ (by first | omega | (simp; done) | (simp; omega)) _))⟩

end Go.Proofs.YtepobckhfodngabGreat
