/-
  Contracts of chapter 6's model: what three agree on.
-/
import Derived.Test.YtbmemdgeohnpnacOrn
import Derived.Test.YtbmemdgeohnpnacV5
import Derived.Deep.RegionHeld3
namespace Go.Proofs.Ytbmemdgeohnpnac
open Go.ChangeShapes Go.WideShapes Go.ChangeAt Go.RowKit
set_option linter.unusedVariables false
theorem okV_okE (q : Int) (xs : List Int) : okV q xs = okE q xs := by
  rw [Bool.eq_iff_iff, okV_iff, okE_iff]
theorem spec_l6Agree (a b c : Int) (w : World) : Calls Try.prog 40 #[.int .i64 a, .int .i64 b, .int .i64 c] w fun e w' => e = .returned (.int .i64 (major [a, b, c]).2) ∧ w = w' := by
  have K := fun V => spec_l1Major a b c V
  by_cases h1 : a = b ∨ a = c
  · have HM : Hid (major [a, b, c] = (0, a)) := by show _ = _; simp only [major]; rw [if_pos h1]
    rw [if_pos h1, show decide (a = b ∨ a = c ∨ b = c) = true from decide_eq_true (by omega)] at K
    clear h1
    go_enter Try.func40, Try.ntmps40
    go_wp2_with fail
    refine (K _).mono ?_
    rintro e w' ⟨rfl, rfl⟩
    go_wp2
    go_ret
    exact ⟨by rw [HM.out]; rfl, rfl⟩
  · by_cases h2 : b = c
    · have HM : Hid (major [a, b, c] = (0, b)) := by show _ = _; simp only [major]; rw [if_neg h1, if_pos h2]
      rw [if_neg h1, show decide (a = b ∨ a = c ∨ b = c) = true from decide_eq_true (by omega)] at K
      clear h1 h2
      go_enter Try.func40, Try.ntmps40
      go_wp2_with fail
      refine (K _).mono ?_
      rintro e w' ⟨rfl, rfl⟩
      go_wp2
      go_ret
      exact ⟨by rw [HM.out]; rfl, rfl⟩
    · have HM : Hid (major [a, b, c] = (4, 0)) := by show _ = _; simp only [major]; rw [if_neg h1, if_neg h2]
      rw [if_neg h1, show decide (a = b ∨ a = c ∨ b = c) = false from decide_eq_false (by omega)] at K
      clear h1 h2
      go_enter Try.func40, Try.ntmps40
      go_wp2_with fail
      refine (K _).mono ?_
      rintro e w' ⟨rfl, rfl⟩
      go_wp2
      go_ret
      exact ⟨by rw [HM.out]; rfl, rfl⟩
set_option maxHeartbeats 4000000 in
theorem spec_AgreeInput (v : Value) (xs : List Int) (w : World) (hv : Reads w .i64 v xs) : Calls Try.prog 11 #[v] w fun e w' => e = .returned (.agg #[.int .i64 (agreeR xs).1, .int .i64 (agreeR xs).2]) ∧ Below w.heap.size w w' := by
  have hm := hv.le
  unfold maxLen at hm
  have R0 : Reads (w.alloc (.cells #[.int .i64 0, .int .i64 0] 43)) .i64 v xs := hv.below (by repeat (first | exact Below.refl _ _ | refine Below.drew ?_ | refine below_drewN ?_ _ | refine Below.setCell ?_ (by first | omega | (simp; done) | (simp; omega)) _ | refine Below.alloc ?_ (by first | omega | (simp; done) | (simp; omega)) _))
  obtain ⟨a, cap, rfl⟩ := hv.shp
  have X0 := Blk.new w 43 #[.int .i64 0, .int .i64 0]
  have B0 : Below w.heap.size w (w.alloc (.cells #[.int .i64 0, .int .i64 0] 43)) := (by repeat (first | exact Below.refl _ _ | refine Below.drew ?_ | refine below_drewN ?_ _ | refine Below.setCell ?_ (by first | omega | (simp; done) | (simp; omega)) _ | refine Below.alloc ?_ (by first | omega | (simp; done) | (simp; omega)) _))
  by_cases hl : xs.length = 3
  · have KE := spec_l5View 256 _ xs _ (by omega) (by omega) R0
    rw [okV_okE] at KE
    by_cases hgood : okE 256 xs = true
    · rw [hgood] at KE
      rw [agreeR_ok xs hl hgood]
      clear hgood hm
      obtain ⟨a0, a1, a2, rfl⟩ := three_of xs hl
      obtain ⟨g, o, hag, hlg, c0⟩ := R0.one 0 (by simp)
      obtain ⟨g', o', hag', hlg', c1⟩ := R0.one 1 (by simp)
      obtain ⟨g'', o'', hag'', hlg'', c2⟩ := R0.one 2 (by simp)
      obtain ⟨g3, o3, hag3, hlw, -⟩ := hv.one 0 (by simp)
      subst hag
      simp only [Option.some.injEq, Addr.mk.injEq, and_true] at hag' hag'' hag3
      obtain ⟨rfl, rfl⟩ := hag3
      clear hv
      obtain ⟨rfl, rfl⟩ := hag'
      obtain ⟨rfl, rfl⟩ := hag''
      have K := fun V => (spec_l6Agree a0 a1 a2 V).mono (R' := fun e w' => e = .returned (.int .i64 (major [a0, a1, a2]).2) ∧ Below V.heap.size V w') (fun e w' h => ⟨h.1, h.2 ▸ Below.refl _ _⟩)
      simp only [List.length_cons, List.length_nil] at *
      clear hl R0
      generalize (major [a0, a1, a2]).2 = r at *
      have c0' : (w.alloc (.cells #[.int .i64 0, .int .i64 0] 43)).cell? ⟨g, o, none⟩ = some (.int .i64 a0) := c0
      have c1' : (w.alloc (.cells #[.int .i64 0, .int .i64 0] 43)).cell? ⟨g, o + 1, none⟩ = some (.int .i64 a1) := c1
      have c2' : (w.alloc (.cells #[.int .i64 0, .int .i64 0] 43)).cell? ⟨g, o + 2, none⟩ = some (.int .i64 a2) := c2
      go_enter Try.func11, Try.ntmps11
      go_wp2_with fail
      refine KE.mono ?_
      rintro e w' ⟨rfl, rfl⟩
      clear KE c0 c1 c2
      generalize w.alloc (.cells #[.int .i64 0, .int .i64 0] 43) = w1 at *
      go_wp2_with fail
      have HS : Hid (∀ V, Below w1.heap.size w1 V → V.cell? ⟨g, o, none⟩ = some (.int .i64 a0) ∧ V.cell? ⟨g, o + 1, none⟩ = some (.int .i64 a1) ∧ V.cell? ⟨g, o + 2, none⟩ = some (.int .i64 a2)) := fun V h => ⟨(h.cell (p := ⟨g, o, none⟩) hlg).trans c0', (h.cell (p := ⟨g, o + 1, none⟩) hlg).trans c1', (h.cell (p := ⟨g, o + 2, none⟩) hlg).trans c2'⟩
      have hgw : g ≠ w.heap.size := Nat.ne_of_lt hlw
      have HO : Hid (∀ V W, Below w1.heap.size w1 V → Off [w.heap.size] V W → W.cell? ⟨g, o, none⟩ = some (.int .i64 a0) ∧ W.cell? ⟨g, o + 1, none⟩ = some (.int .i64 a1) ∧ W.cell? ⟨g, o + 2, none⟩ = some (.int .i64 a2)) := fun V W b f => ⟨((f.at g (Nat.lt_of_lt_of_le hlg b.size) (by simpa using hgw)).1 o).trans (HS.out V b).1, ((f.at g (Nat.lt_of_lt_of_le hlg b.size) (by simpa using hgw)).1 (o + 1)).trans (HS.out V b).2.1, ((f.at g (Nat.lt_of_lt_of_le hlg b.size) (by simpa using hgw)).1 (o + 2)).trans (HS.out V b).2.2⟩
      have hS0 := HS.out w1.drew (Below.refl _ _).drew
      go_region_held3 (fun V => V.cell? ⟨g, o, none⟩ = some (.int .i64 a0) ∧ V.cell? ⟨g, o + 1, none⟩ = some (.int .i64 a1) ∧ V.cell? ⟨g, o + 2, none⟩ = some (.int .i64 a2)) (first | (have _k := tk1; first | exact HS.out _ B9 | exact HO.out _ _ B9 (((Off.refl _ _).setCell _ _ (by simp)).setCell _ _ (by simp))) | exact hS0) (first | (go_at_call 40; refine (K _).mono ?_; rintro e w9 ⟨rfl, hb9⟩; have B9 := (Below.refl w1.heap.size w1).drew.trans hb9; have Y9 := X0.drew.keep hb9; have tk1 : Hid True := trivial; have ya := Y9.at.1; have yb := Y9.at.2; have yl := Y9.lt))
      have BB := B0.trans (B9.mono B0.size)
      go_wp2
      exact bodyPost_ret (v := .agg #[.int .i64 0, .int .i64 r]) (by simp [results, Try.results11, go_sem, ya]) rfl ⟨rfl, (by have zz0 := (BB).size; (try simp at zz0); repeat (first | exact Below.refl _ _ | refine Below.drew ?_ | refine below_drewN ?_ _ | refine Below.setCell ?_ (by first | omega | (simp; done) | (simp; omega)) _ | refine Below.alloc ?_ (by first | omega | (simp; done) | (simp; omega)) _ | refine bcall ?_ BB (by first | omega | (simp; done) | (simp; omega))))⟩
    · simp only [Bool.not_eq_true] at hgood
      rw [hgood] at KE
      rw [agreeR_bad xs hl (by simp [hgood])]
      rw [hl] at KE ⊢
      clear hgood hl
      go_enter Try.func11, Try.ntmps11
      go_wp2_with fail
      refine KE.mono ?_
      rintro e w' ⟨rfl, rfl⟩
      clear KE
      go_wp2
      refine bodyPost_ret (v := .agg #[.int .i64 3, .int .i64 0]) (by simp [results, Try.results11, go_sem]) rfl ⟨rfl, (by have zz0 := (B0).size; (try simp at zz0); repeat (first | exact Below.refl _ _ | refine Below.drew ?_ | refine below_drewN ?_ _ | refine Below.setCell ?_ (by first | omega | (simp; done) | (simp; omega)) _ | refine Below.alloc ?_ (by first | omega | (simp; done) | (simp; omega)) _ | refine bcall ?_ B0 (by first | omega | (simp; done) | (simp; omega))))⟩
  · rw [agreeR_many xs hl]
    have hne : ((xs.length : Int) == 3) = false := by simp; omega
    go_enter Try.func11, Try.ntmps11
    go_wp2
    exact bodyPost_ret (v := .agg #[.int .i64 2, .int .i64 0]) (by simp [results, Try.results11, go_sem]) rfl ⟨rfl, (by repeat (first | exact Below.refl _ _ | refine Below.drew ?_ | refine below_drewN ?_ _ | refine Below.setCell ?_ (by first | omega | (simp; done) | (simp; omega)) _ | refine Below.alloc ?_ (by first | omega | (simp; done) | (simp; omega)) _))⟩
end Go.Proofs.Ytbmemdgeohnpnac
