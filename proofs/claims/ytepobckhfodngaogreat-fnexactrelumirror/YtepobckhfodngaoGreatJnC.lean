/-
  Contracts of chapter 4: who cheats, and when: in the program and in its model.
-/
import Derived.Test.YtepobckhfodngaoGreatBut
import Derived.Test.YtepobckhfodngaoGreatRing
namespace Go.Proofs.YtepobckhfodngaoGreat
open Go.ChangeShapes Go.WideShapes Go.ChangeAt Go.RowKit
set_option linter.unusedVariables false


def cheatC (x : MCheat) : Int := if isBut x.xWho = true ∧ (0 ≤ x.xAt ∧ x.xAt ≤ 99999) ∧ (0 ≤ x.xBy ∧ x.xBy ≤ 255) then 0 else 3
theorem cheatC_zero {x : MCheat} (h : cheatC x = 0) : isBut x.xWho = true ∧ (0 ≤ x.xAt ∧ x.xAt ≤ 99999) ∧ (0 ≤ x.xBy ∧ x.xBy ≤ 255) := by
  unfold cheatC at h
  split at h
  · assumption
  · cases h
set_option maxHeartbeats 1000000 in
theorem spec_l4Cheat (b o : Nat) (x : MCheat) (w : World) (c0 : w.cell? ⟨b, o, none⟩ = some (.int .i64 x.xWho)) (c1 : w.cell? ⟨b, o + 1, none⟩ = some (.int .i64 x.xAt)) (c2 : w.cell? ⟨b, o + 2, none⟩ = some (.int .i64 x.xBy)) :
    Calls Tryz.prog 101 #[.pointer (some ⟨b, o, none⟩)] w fun e w' => e = .returned (.int .i64 (cheatC x)) ∧ w = w' := by
  have K := spec_l3But x.xWho
  by_cases h0 : isBut x.xWho = true
  · rw [h0] at K
    by_cases h1 : 0 ≤ x.xAt ∧ x.xAt ≤ 99999
    · by_cases h2 : 0 ≤ x.xBy ∧ x.xBy ≤ 255
      · skip
        have HN : Hid (cheatC x = 0) := if_pos ⟨h0, h1, h2⟩
        go_enter Tryz.func101, Tryz.ntmps101
        go_wp2_with fail
        refine (K _).mono ?_
        rintro e w' ⟨rfl, rfl⟩
        go_wp2_with fail
        refine (spec_l1In_yes _ _ _ _ h1.1 h1.2).mono ?_
        rintro e w' ⟨rfl, rfl⟩
        go_wp2_with fail
        refine (spec_l1In_yes _ _ _ _ h2.1 h2.2).mono ?_
        rintro e w' ⟨rfl, rfl⟩
        go_wp2
        go_ret
        exact ⟨by rw [HN.out]; rfl, rfl⟩
      · skip
        have HN : Hid (cheatC x = 3) := if_neg (fun h => h2 h.2.2)
        go_enter Tryz.func101, Tryz.ntmps101
        go_wp2_with fail
        refine (K _).mono ?_
        rintro e w' ⟨rfl, rfl⟩
        go_wp2_with fail
        refine (spec_l1In_yes _ _ _ _ h1.1 h1.2).mono ?_
        rintro e w' ⟨rfl, rfl⟩
        go_wp2_with fail
        refine (spec_l1In_no _ _ _ _ (by omega)).mono ?_
        rintro e w' ⟨rfl, rfl⟩
        go_wp2
        go_ret
        exact ⟨by rw [HN.out]; rfl, rfl⟩
    · skip
      have HN : Hid (cheatC x = 3) := if_neg (fun h => h1 h.2.1)
      go_enter Tryz.func101, Tryz.ntmps101
      go_wp2_with fail
      refine (K _).mono ?_
      rintro e w' ⟨rfl, rfl⟩
      go_wp2_with fail
      refine (spec_l1In_no _ _ _ _ (by omega)).mono ?_
      rintro e w' ⟨rfl, rfl⟩
      go_wp2
      go_ret
      exact ⟨by rw [HN.out]; rfl, rfl⟩
  · skip
    have hf : isBut x.xWho = false := by simpa using h0
    rw [hf] at K
    have HN : Hid (cheatC x = 3) := if_neg (fun h => h0 h.1)
    go_enter Tryz.func101, Tryz.ntmps101
    go_wp2_with fail
    refine (K _).mono ?_
    rintro e w' ⟨rfl, rfl⟩
    go_wp2
    go_ret
    exact ⟨by rw [HN.out]; rfl, rfl⟩
theorem impl_isCount_yes (n : Int) (w : World) (h : 0 ≤ n ∧ n ≤ 99999) : Calls Tryz.prog 130 #[.int .i64 n] w fun e w' => e = .returned (.bool true) ∧ w = w' := by
  obtain ⟨h1, h2⟩ := h
  go_enter Tryz.func130, Tryz.ntmps130
  go_wp2
  go_ret
  exact ⟨rfl, rfl⟩
theorem impl_isCount_no (n : Int) (w : World) (h : ¬ (0 ≤ n ∧ n ≤ 99999)) : Calls Tryz.prog 130 #[.int .i64 n] w fun e w' => e = .returned (.bool false) ∧ w = w' := by
  by_cases h1 : 0 ≤ n
  · have h3 : ¬ n ≤ 99999 := by omega
    clear h
    go_enter Tryz.func130, Tryz.ntmps130
    go_wp2
    go_ret
    exact ⟨rfl, rfl⟩
  · clear h
    go_enter Tryz.func130, Tryz.ntmps130
    go_wp2
    go_ret
    exact ⟨rfl, rfl⟩
set_option maxHeartbeats 1000000 in
theorem impl_CheatFault (v : Value) (x : MCheat) (w : World) (hv : RdCheat w v x) :
    Calls Tryz.prog 116 #[v] w fun e w' => e = .returned (.int .i64 (cheatC x)) ∧ Below w.heap.size w w' := by
  subst hv
  have K := impl_isPartyOrNobody x.xWho
  by_cases h0 : isBut x.xWho = true
  · rw [h0] at K
    by_cases h1 : 0 ≤ x.xAt ∧ x.xAt ≤ 99999
    · by_cases h2 : 0 ≤ x.xBy ∧ x.xBy ≤ 255
      · skip
        have HN : Hid (cheatC x = 0) := if_pos ⟨h0, h1, h2⟩
        go_enter Tryz.func116, Tryz.ntmps116
        go_wp2_with fail
        refine (K _).mono ?_
        rintro e w' ⟨rfl, rfl⟩
        go_wp2_with fail
        refine (impl_isCount_yes _ _ h1).mono ?_
        rintro e w' ⟨rfl, rfl⟩
        go_wp2_with fail
        refine (impl_isElement_yes _ _ _ h2.1 (by omega)).mono ?_
        rintro e w' ⟨rfl, rfl⟩
        go_wp2
        go_ret
        exact ⟨by rw [HN.out]; rfl, (by repeat (first | exact Below.refl _ _ | refine Below.drew ?_ | refine below_drewN ?_ _ | refine Below.setCell ?_ (by first | omega | (simp; done) | (simp; omega)) _ | refine Below.alloc ?_ (by first | omega | (simp; done) | (simp; omega)) _))⟩
      · skip
        have HN : Hid (cheatC x = 3) := if_neg (fun h => h2 h.2.2)
        go_enter Tryz.func116, Tryz.ntmps116
        go_wp2_with fail
        refine (K _).mono ?_
        rintro e w' ⟨rfl, rfl⟩
        go_wp2_with fail
        refine (impl_isCount_yes _ _ h1).mono ?_
        rintro e w' ⟨rfl, rfl⟩
        go_wp2_with fail
        refine (impl_isElement_no _ _ _ (by omega)).mono ?_
        rintro e w' ⟨rfl, rfl⟩
        go_wp2
        go_ret
        exact ⟨by rw [HN.out]; rfl, (by repeat (first | exact Below.refl _ _ | refine Below.drew ?_ | refine below_drewN ?_ _ | refine Below.setCell ?_ (by first | omega | (simp; done) | (simp; omega)) _ | refine Below.alloc ?_ (by first | omega | (simp; done) | (simp; omega)) _))⟩
    · skip
      have HN : Hid (cheatC x = 3) := if_neg (fun h => h1 h.2.1)
      go_enter Tryz.func116, Tryz.ntmps116
      go_wp2_with fail
      refine (K _).mono ?_
      rintro e w' ⟨rfl, rfl⟩
      go_wp2_with fail
      refine (impl_isCount_no _ _ h1).mono ?_
      rintro e w' ⟨rfl, rfl⟩
      go_wp2
      go_ret
      exact ⟨by rw [HN.out]; rfl, (by repeat (first | exact Below.refl _ _ | refine Below.drew ?_ | refine below_drewN ?_ _ | refine Below.setCell ?_ (by first | omega | (simp; done) | (simp; omega)) _ | refine Below.alloc ?_ (by first | omega | (simp; done) | (simp; omega)) _))⟩
  · skip
    have hf : isBut x.xWho = false := by simpa using h0
    rw [hf] at K
    have HN : Hid (cheatC x = 3) := if_neg (fun h => h0 h.1)
    go_enter Tryz.func116, Tryz.ntmps116
    go_wp2_with fail
    refine (K _).mono ?_
    rintro e w' ⟨rfl, rfl⟩
    go_wp2
    go_ret
    exact ⟨by rw [HN.out]; rfl, (by repeat (first | exact Below.refl _ _ | refine Below.drew ?_ | refine below_drewN ?_ _ | refine Below.setCell ?_ (by first | omega | (simp; done) | (simp; omega)) _ | refine Below.alloc ?_ (by first | omega | (simp; done) | (simp; omega)) _))⟩
end Go.Proofs.YtepobckhfodngaoGreat
