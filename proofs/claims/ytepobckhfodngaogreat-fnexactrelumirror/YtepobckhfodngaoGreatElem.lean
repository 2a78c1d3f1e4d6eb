/-
  Contracts of the program's elements, and of the ring's three operations, of the program and of its model.
-/
import Derived.Test.YtepobckhfodngaoGreatRing
namespace Go.Proofs.YtepobckhfodngaoGreat
open Go.ChangeShapes Go.WideShapes Go.ChangeAt Go.RowKit
set_option linter.unusedVariables false

theorem impl_with (q x v : Int) (w : World) (hq : 1 ≤ q) (hq' : q ≤ 256) (hv : 0 ≤ v) (hv' : v ≤ 65535) : Calls Tryz.prog 149 #[.agg #[.int .u16 q, .int .u16 x], .int .u16 v] w fun e w' => e = .returned (.agg #[.int .u16 q, .int .u16 (v % q)]) ∧ Below w.heap.size w w' := by
  have hne : (q == 0) = false := by simp; omega
  go_enter Tryz.func149, Tryz.ntmps149
  go_wp2
  go_region
  all_goals
    go_wp2
    exact bodyPost_ret (v := .agg #[.int .u16 q, .int .u16 (v % q)]) (by simp [results, Tryz.results149, go_sem]) rfl ⟨rfl, (((Below.refl _ _).alloc (Nat.le_refl _) _).alloc (by simp) _).drew⟩
theorem impl_elementOf (q v : Int) (w : World) (hq : 0 ≤ q) (hq' : q ≤ 256) (hv : 0 ≤ v) (hv' : v ≤ 256) : Calls Tryz.prog 136 #[.int .i64 q, .int .i64 v] w fun e w' => e = .returned (.agg #[.int .u16 q, .int .u16 v]) ∧ Below w.heap.size w w' := by
  go_enter Tryz.func136, Tryz.ntmps136
  go_wp2
  exact bodyPost_ret (v := .agg #[.int .u16 q, .int .u16 v]) (by simp [results, Tryz.results136, go_sem]) rfl ⟨rfl, (Below.refl _ _).alloc (Nat.le_refl _) _⟩
theorem impl_result (q v : Int) (w : World) (hv : 0 ≤ v) (hv' : v ≤ 65535) : Calls Tryz.prog 141 #[.agg #[.int .u16 q, .int .u16 v]] w fun e w' => e = .returned (.agg #[.int .i64 0, .int .i64 v]) ∧ Below w.heap.size w w' := by
  go_enter Tryz.func141, Tryz.ntmps141
  go_wp2
  exact bodyPost_ret (v := .agg #[.int .i64 0, .int .i64 v]) (by simp [results, Tryz.results141, go_sem]) rfl ⟨rfl, ((Below.refl _ _).alloc (Nat.le_refl _) _).alloc (by simp) _⟩
theorem impl_plus (q x y : Int) (w : World) (hq : 1 ≤ q) (hq' : q ≤ 256) (hx : 0 ≤ x) (hx' : x < q) (hy : 0 ≤ y) (hy' : y < q) : Calls Tryz.prog 148 #[.agg #[.int .u16 q, .int .u16 x], .agg #[.int .u16 q, .int .u16 y]] w fun e w' => e = .returned (.agg #[.int .u16 q, .int .u16 ((x + y) % q)]) ∧ Below w.heap.size w w' := by
  go_enter Tryz.func148, Tryz.ntmps148
  go_wp2_with fail
  refine (impl_with _ _ _ _ hq hq' (by omega) (by omega)).mono ?_
  rintro e w1 ⟨rfl, hb⟩
  obtain ⟨hc, hf⟩ := bcell hb
  go_wp2
  exact bodyPost_ret (v := .agg #[.int .u16 q, .int .u16 ((x + y) % q)]) (by simp [results, Tryz.results148, go_sem, hc]) rfl ⟨rfl, (by have zz0 := (hb).size; (try simp at zz0); repeat (first | exact Below.refl _ _ | refine Below.drew ?_ | refine below_drewN ?_ _ | refine Below.setCell ?_ (by first | omega | (simp; done) | (simp; omega)) _ | refine Below.alloc ?_ (by first | omega | (simp; done) | (simp; omega)) _ | refine bcall ?_ hb (by first | omega | (simp; done) | (simp; omega))))⟩
theorem impl_minus (q x y : Int) (w : World) (hq : 1 ≤ q) (hq' : q ≤ 256) (hx : 0 ≤ x) (hx' : x < q) (hy : 0 ≤ y) (hy' : y < q) : Calls Tryz.prog 140 #[.agg #[.int .u16 q, .int .u16 x], .agg #[.int .u16 q, .int .u16 y]] w fun e w' => e = .returned (.agg #[.int .u16 q, .int .u16 ((x - y) % q)]) ∧ Below w.heap.size w w' := by
  have em : (x - y) % q = (x + q - y) % q := by rw [show x + q - y = (x - y) + q by omega, Int.add_emod_right]
  rw [em]
  clear em
  go_enter Tryz.func140, Tryz.ntmps140
  go_wp2_with fail
  refine (impl_with _ _ _ _ hq hq' (by omega) (by omega)).mono ?_
  rintro e w1 ⟨rfl, hb⟩
  obtain ⟨hc, hf⟩ := bcell hb
  go_wp2
  exact bodyPost_ret (v := .agg #[.int .u16 q, .int .u16 ((x + q - y) % q)]) (by simp [results, Tryz.results140, go_sem, hc]) rfl ⟨rfl, (by have zz0 := (hb).size; (try simp at zz0); repeat (first | exact Below.refl _ _ | refine Below.drew ?_ | refine below_drewN ?_ _ | refine Below.setCell ?_ (by first | omega | (simp; done) | (simp; omega)) _ | refine Below.alloc ?_ (by first | omega | (simp; done) | (simp; omega)) _ | refine bcall ?_ hb (by first | omega | (simp; done) | (simp; omega))))⟩
theorem impl_times (q x y : Int) (w : World) (hq : 1 ≤ q) (hq' : q ≤ 256) (hx : 0 ≤ x) (hx' : x < q) (hy : 0 ≤ y) (hy' : y < q) : Calls Tryz.prog 157 #[.agg #[.int .u16 q, .int .u16 x], .agg #[.int .u16 q, .int .u16 y]] w fun e w' => e = .returned (.agg #[.int .u16 q, .int .u16 ((x * y) % q)]) ∧ Below w.heap.size w w' := by
  have b1 : 0 ≤ x * y := Int.mul_nonneg hx hy
  have b2 : x * y ≤ 65025 := by
    have := Int.mul_le_mul (show x ≤ 255 by omega) (show y ≤ 255 by omega) hy (by omega)
    omega
  go_enter Tryz.func157, Tryz.ntmps157
  go_wp2_with fail
  refine (impl_with _ _ _ _ hq hq' (by omega) (by omega)).mono ?_
  rintro e w1 ⟨rfl, hb⟩
  obtain ⟨hc, hf⟩ := bcell hb
  go_wp2
  exact bodyPost_ret (v := .agg #[.int .u16 q, .int .u16 ((x * y) % q)]) (by simp [results, Tryz.results157, go_sem, hc]) rfl ⟨rfl, (by have zz0 := (hb).size; (try simp at zz0); repeat (first | exact Below.refl _ _ | refine Below.drew ?_ | refine below_drewN ?_ _ | refine Below.setCell ?_ (by first | omega | (simp; done) | (simp; omega)) _ | refine Below.alloc ?_ (by first | omega | (simp; done) | (simp; omega)) _ | refine bcall ?_ hb (by first | omega | (simp; done) | (simp; omega))))⟩
theorem impl_elementsOf_yes (q a b : Int) (w : World) (h : okR q a b) : Calls Tryz.prog 139 #[.int .i64 q, .int .i64 a, .int .i64 b] w fun e w' => e = .returned (.tuple #[.agg #[.int .u16 q, .int .u16 a], .agg #[.int .u16 q, .int .u16 b], .bool true]) ∧ Below w.heap.size w w' := by
  obtain ⟨hq, h1, h2, h3, h4⟩ := h
  go_enter Tryz.func139, Tryz.ntmps139
  go_wp2_with fail
  refine (impl_isRing_yes _ _ hq).mono ?_
  rintro e w' ⟨rfl, rfl⟩
  go_wp2_with fail
  refine (impl_isElement_yes _ _ _ h1 h2).mono ?_
  rintro e w' ⟨rfl, rfl⟩
  go_wp2_with fail
  refine (impl_isElement_yes _ _ _ h3 h4).mono ?_
  rintro e w' ⟨rfl, rfl⟩
  go_wp2_with fail
  refine (impl_elementOf _ _ _ (by omega) (by omega) (by omega) (by omega)).mono ?_
  rintro e w1 ⟨rfl, hb1⟩
  go_wp2_with fail
  refine (impl_elementOf _ _ _ (by omega) (by omega) (by omega) (by omega)).mono ?_
  rintro e w2 ⟨rfl, hb2⟩
  have hb := bcall hb1 hb2 hb1.size
  clear hb1 hb2
  obtain ⟨hc, hf⟩ := bcell hb
  go_wp2
  exact bodyPost_ret (v := .tuple #[.agg #[.int .u16 q, .int .u16 a], .agg #[.int .u16 q, .int .u16 b], .bool true]) (by simp (maxDischargeDepth := 8) [results, Tryz.results139, go_sem, hc]) rfl ⟨rfl, (by have zz0 := (hb).size; (try simp at zz0); repeat (first | exact Below.refl _ _ | refine Below.drew ?_ | refine below_drewN ?_ _ | refine Below.setCell ?_ (by first | omega | (simp; done) | (simp; omega)) _ | refine Below.alloc ?_ (by first | omega | (simp; done) | (simp; omega)) _ | refine bcall ?_ hb (by first | omega | (simp; done) | (simp; omega))))⟩
theorem impl_elementsOf_no (q a b : Int) (w : World) (h : ¬ okR q a b) : Calls Tryz.prog 139 #[.int .i64 q, .int .i64 a, .int .i64 b] w fun e w' => e = .returned (.tuple #[.agg #[.int .u16 0, .int .u16 0], .agg #[.int .u16 0, .int .u16 0], .bool false]) ∧ Below w.heap.size w w' := by
  by_cases hq : q = 2 ∨ q = 256
  · by_cases ha : 0 ≤ a ∧ a < q
    · have hb : b < 0 ∨ q ≤ b := by unfold okR at h; omega
      clear h
      go_enter Tryz.func139, Tryz.ntmps139
      go_wp2_with fail
      refine (impl_isRing_yes _ _ hq).mono ?_
      rintro e w' ⟨rfl, rfl⟩
      go_wp2_with fail
      refine (impl_isElement_yes _ _ _ ha.1 ha.2).mono ?_
      rintro e w' ⟨rfl, rfl⟩
      go_wp2_with fail
      refine (impl_isElement_no _ _ _ hb).mono ?_
      rintro e w' ⟨rfl, rfl⟩
      go_wp2
      exact bodyPost_ret (v := .tuple #[.agg #[.int .u16 0, .int .u16 0], .agg #[.int .u16 0, .int .u16 0], .bool false]) (by simp [results, Tryz.results139, go_sem]) rfl ⟨rfl, (by repeat (first | exact Below.refl _ _ | refine Below.drew ?_ | refine below_drewN ?_ _ | refine Below.setCell ?_ (by first | omega | (simp; done) | (simp; omega)) _ | refine Below.alloc ?_ (by first | omega | (simp; done) | (simp; omega)) _))⟩
    · clear h
      go_enter Tryz.func139, Tryz.ntmps139
      go_wp2_with fail
      refine (impl_isRing_yes _ _ hq).mono ?_
      rintro e w' ⟨rfl, rfl⟩
      go_wp2_with fail
      refine (impl_isElement_no _ _ _ (by omega)).mono ?_
      rintro e w' ⟨rfl, rfl⟩
      go_wp2
      exact bodyPost_ret (v := .tuple #[.agg #[.int .u16 0, .int .u16 0], .agg #[.int .u16 0, .int .u16 0], .bool false]) (by simp [results, Tryz.results139, go_sem]) rfl ⟨rfl, (by repeat (first | exact Below.refl _ _ | refine Below.drew ?_ | refine below_drewN ?_ _ | refine Below.setCell ?_ (by first | omega | (simp; done) | (simp; omega)) _ | refine Below.alloc ?_ (by first | omega | (simp; done) | (simp; omega)) _))⟩
  · clear h
    go_enter Tryz.func139, Tryz.ntmps139
    go_wp2_with fail
    refine (impl_isRing_no _ _ hq).mono ?_
    rintro e w' ⟨rfl, rfl⟩
    go_wp2
    exact bodyPost_ret (v := .tuple #[.agg #[.int .u16 0, .int .u16 0], .agg #[.int .u16 0, .int .u16 0], .bool false]) (by simp [results, Tryz.results139, go_sem]) rfl ⟨rfl, (by repeat (first | exact Below.refl _ _ | refine Below.drew ?_ | refine below_drewN ?_ _ | refine Below.setCell ?_ (by first | omega | (simp; done) | (simp; omega)) _ | refine Below.alloc ?_ (by first | omega | (simp; done) | (simp; omega)) _))⟩
theorem impl_AddRing_no (q a b : Int) (w : World) (h : ¬ okR q a b) : Calls Tryz.prog 138 #[.int .i64 q, .int .i64 a, .int .i64 b] w fun e w' => e = .returned (.agg #[.int .i64 3, .int .i64 0]) ∧ Below w.heap.size w w' := by
  go_enter Tryz.func138, Tryz.ntmps138
  go_wp2_with fail
  refine (impl_elementsOf_no _ _ _ _ h).mono ?_
  rintro e w1 ⟨rfl, hb⟩
  obtain ⟨hc, hf⟩ := bat hb w.heap.size (by simp)
  have hz : w.heap.size < w1.heap.size := by have := hb.size; simp at this; omega
  go_wp2
  exact bodyPost_ret (v := .agg #[.int .i64 3, .int .i64 0]) (by simp [results, Tryz.results138, go_sem, hc, hz]) rfl ⟨rfl, (by have zz0 := (hb).size; (try simp at zz0); repeat (first | exact Below.refl _ _ | refine Below.drew ?_ | refine below_drewN ?_ _ | refine Below.setCell ?_ (by first | omega | (simp; done) | (simp; omega)) _ | refine Below.alloc ?_ (by first | omega | (simp; done) | (simp; omega)) _ | refine bcall ?_ hb (by first | omega | (simp; done) | (simp; omega))))⟩
theorem impl_AddRing_yes (q a b : Int) (w : World) (h : okR q a b) : Calls Tryz.prog 138 #[.int .i64 q, .int .i64 a, .int .i64 b] w fun e w' => e = .returned (.agg #[.int .i64 0, .int .i64 ((a + b) % q)]) ∧ Below w.heap.size w w' := by
  have h' := h
  obtain ⟨hq, h1, h2, h3, h4⟩ := h'
  have m1 : 0 ≤ (a + b) % q := Int.emod_nonneg _ (by omega)
  have m2 : (a + b) % q < q := Int.emod_lt_of_pos _ (by omega)
  go_enter Tryz.func138, Tryz.ntmps138
  go_wp2_with fail
  refine (impl_elementsOf_yes _ _ _ _ h).mono ?_
  rintro e w1 ⟨rfl, hb1⟩
  have hz1 : w.heap.size < w1.heap.size := by have := hb1.size; simp at this; omega
  go_wp2_with fail
  refine (impl_plus _ _ _ _ (by omega) (by omega) h1 h2 h3 h4).mono ?_
  rintro e w2 ⟨rfl, hb2⟩
  go_wp2_with fail
  refine (impl_result _ _ _ (by omega) (by omega)).mono ?_
  rintro e w3 ⟨rfl, hb3⟩
  have hb : Below (w.alloc (Obj.cells #[Value.int IntKind.i64 0, Value.int IntKind.i64 0] 178)).heap.size (w.alloc (Obj.cells #[Value.int IntKind.i64 0, Value.int IntKind.i64 0] 178)) w3 := (by have zz0 := (hb3).size; (try simp at zz0); have zz1 := (hb2).size; (try simp at zz1); have zz2 := (hb1).size; (try simp at zz2); repeat (first | exact Below.refl _ _ | refine Below.drew ?_ | refine below_drewN ?_ _ | refine Below.setCell ?_ (by first | omega | (simp; done) | (simp; omega)) _ | refine Below.alloc ?_ (by first | omega | (simp; done) | (simp; omega)) _ | refine bcall ?_ hb3 (by first | omega | (simp; done) | (simp; omega)) | refine bcall ?_ hb2 (by first | omega | (simp; done) | (simp; omega)) | refine bcall ?_ hb1 (by first | omega | (simp; done) | (simp; omega))))
  clear hb1 hb2 hb3
  obtain ⟨hc, hf⟩ := bat hb w.heap.size (by simp)
  go_wp2
  exact bodyPost_ret (v := .agg #[.int .i64 0, .int .i64 ((a + b) % q)]) (by simp [results, Tryz.results138, go_sem, hc]) rfl ⟨rfl, (by have zz0 := (hb).size; (try simp at zz0); repeat (first | exact Below.refl _ _ | refine Below.drew ?_ | refine below_drewN ?_ _ | refine Below.setCell ?_ (by first | omega | (simp; done) | (simp; omega)) _ | refine Below.alloc ?_ (by first | omega | (simp; done) | (simp; omega)) _ | refine bcall ?_ hb (by first | omega | (simp; done) | (simp; omega))))⟩
theorem impl_SubRing_no (q a b : Int) (w : World) (h : ¬ okR q a b) : Calls Tryz.prog 123 #[.int .i64 q, .int .i64 a, .int .i64 b] w fun e w' => e = .returned (.agg #[.int .i64 3, .int .i64 0]) ∧ Below w.heap.size w w' := by
  go_enter Tryz.func123, Tryz.ntmps123
  go_wp2_with fail
  refine (impl_elementsOf_no _ _ _ _ h).mono ?_
  rintro e w1 ⟨rfl, hb⟩
  obtain ⟨hc, hf⟩ := bat hb w.heap.size (by simp)
  have hz : w.heap.size < w1.heap.size := by have := hb.size; simp at this; omega
  go_wp2
  exact bodyPost_ret (v := .agg #[.int .i64 3, .int .i64 0]) (by simp [results, Tryz.results123, go_sem, hc, hz]) rfl ⟨rfl, (by have zz0 := (hb).size; (try simp at zz0); repeat (first | exact Below.refl _ _ | refine Below.drew ?_ | refine below_drewN ?_ _ | refine Below.setCell ?_ (by first | omega | (simp; done) | (simp; omega)) _ | refine Below.alloc ?_ (by first | omega | (simp; done) | (simp; omega)) _ | refine bcall ?_ hb (by first | omega | (simp; done) | (simp; omega))))⟩
theorem impl_SubRing_yes (q a b : Int) (w : World) (h : okR q a b) : Calls Tryz.prog 123 #[.int .i64 q, .int .i64 a, .int .i64 b] w fun e w' => e = .returned (.agg #[.int .i64 0, .int .i64 ((a - b) % q)]) ∧ Below w.heap.size w w' := by
  have h' := h
  obtain ⟨hq, h1, h2, h3, h4⟩ := h'
  have m1 : 0 ≤ (a - b) % q := Int.emod_nonneg _ (by omega)
  have m2 : (a - b) % q < q := Int.emod_lt_of_pos _ (by omega)
  go_enter Tryz.func123, Tryz.ntmps123
  go_wp2_with fail
  refine (impl_elementsOf_yes _ _ _ _ h).mono ?_
  rintro e w1 ⟨rfl, hb1⟩
  have hz1 : w.heap.size < w1.heap.size := by have := hb1.size; simp at this; omega
  go_wp2_with fail
  refine (impl_minus _ _ _ _ (by omega) (by omega) h1 h2 h3 h4).mono ?_
  rintro e w2 ⟨rfl, hb2⟩
  go_wp2_with fail
  refine (impl_result _ _ _ (by omega) (by omega)).mono ?_
  rintro e w3 ⟨rfl, hb3⟩
  have hb : Below (w.alloc (Obj.cells #[Value.int IntKind.i64 0, Value.int IntKind.i64 0] 178)).heap.size (w.alloc (Obj.cells #[Value.int IntKind.i64 0, Value.int IntKind.i64 0] 178)) w3 := (by have zz0 := (hb3).size; (try simp at zz0); have zz1 := (hb2).size; (try simp at zz1); have zz2 := (hb1).size; (try simp at zz2); repeat (first | exact Below.refl _ _ | refine Below.drew ?_ | refine below_drewN ?_ _ | refine Below.setCell ?_ (by first | omega | (simp; done) | (simp; omega)) _ | refine Below.alloc ?_ (by first | omega | (simp; done) | (simp; omega)) _ | refine bcall ?_ hb3 (by first | omega | (simp; done) | (simp; omega)) | refine bcall ?_ hb2 (by first | omega | (simp; done) | (simp; omega)) | refine bcall ?_ hb1 (by first | omega | (simp; done) | (simp; omega))))
  clear hb1 hb2 hb3
  obtain ⟨hc, hf⟩ := bat hb w.heap.size (by simp)
  go_wp2
  exact bodyPost_ret (v := .agg #[.int .i64 0, .int .i64 ((a - b) % q)]) (by simp [results, Tryz.results123, go_sem, hc]) rfl ⟨rfl, (by have zz0 := (hb).size; (try simp at zz0); repeat (first | exact Below.refl _ _ | refine Below.drew ?_ | refine below_drewN ?_ _ | refine Below.setCell ?_ (by first | omega | (simp; done) | (simp; omega)) _ | refine Below.alloc ?_ (by first | omega | (simp; done) | (simp; omega)) _ | refine bcall ?_ hb (by first | omega | (simp; done) | (simp; omega))))⟩
theorem impl_MulRing_no (q a b : Int) (w : World) (h : ¬ okR q a b) : Calls Tryz.prog 151 #[.int .i64 q, .int .i64 a, .int .i64 b] w fun e w' => e = .returned (.agg #[.int .i64 3, .int .i64 0]) ∧ Below w.heap.size w w' := by
  go_enter Tryz.func151, Tryz.ntmps151
  go_wp2_with fail
  refine (impl_elementsOf_no _ _ _ _ h).mono ?_
  rintro e w1 ⟨rfl, hb⟩
  obtain ⟨hc, hf⟩ := bat hb w.heap.size (by simp)
  have hz : w.heap.size < w1.heap.size := by have := hb.size; simp at this; omega
  go_wp2
  exact bodyPost_ret (v := .agg #[.int .i64 3, .int .i64 0]) (by simp [results, Tryz.results151, go_sem, hc, hz]) rfl ⟨rfl, (by have zz0 := (hb).size; (try simp at zz0); repeat (first | exact Below.refl _ _ | refine Below.drew ?_ | refine below_drewN ?_ _ | refine Below.setCell ?_ (by first | omega | (simp; done) | (simp; omega)) _ | refine Below.alloc ?_ (by first | omega | (simp; done) | (simp; omega)) _ | refine bcall ?_ hb (by first | omega | (simp; done) | (simp; omega))))⟩
theorem impl_MulRing_yes (q a b : Int) (w : World) (h : okR q a b) : Calls Tryz.prog 151 #[.int .i64 q, .int .i64 a, .int .i64 b] w fun e w' => e = .returned (.agg #[.int .i64 0, .int .i64 ((a * b) % q)]) ∧ Below w.heap.size w w' := by
  have h' := h
  obtain ⟨hq, h1, h2, h3, h4⟩ := h'
  have m1 : 0 ≤ (a * b) % q := Int.emod_nonneg _ (by omega)
  have m2 : (a * b) % q < q := Int.emod_lt_of_pos _ (by omega)
  go_enter Tryz.func151, Tryz.ntmps151
  go_wp2_with fail
  refine (impl_elementsOf_yes _ _ _ _ h).mono ?_
  rintro e w1 ⟨rfl, hb1⟩
  have hz1 : w.heap.size < w1.heap.size := by have := hb1.size; simp at this; omega
  go_wp2_with fail
  refine (impl_times _ _ _ _ (by omega) (by omega) h1 h2 h3 h4).mono ?_
  rintro e w2 ⟨rfl, hb2⟩
  go_wp2_with fail
  refine (impl_result _ _ _ (by omega) (by omega)).mono ?_
  rintro e w3 ⟨rfl, hb3⟩
  have hb : Below (w.alloc (Obj.cells #[Value.int IntKind.i64 0, Value.int IntKind.i64 0] 178)).heap.size (w.alloc (Obj.cells #[Value.int IntKind.i64 0, Value.int IntKind.i64 0] 178)) w3 := (by have zz0 := (hb3).size; (try simp at zz0); have zz1 := (hb2).size; (try simp at zz1); have zz2 := (hb1).size; (try simp at zz2); repeat (first | exact Below.refl _ _ | refine Below.drew ?_ | refine below_drewN ?_ _ | refine Below.setCell ?_ (by first | omega | (simp; done) | (simp; omega)) _ | refine Below.alloc ?_ (by first | omega | (simp; done) | (simp; omega)) _ | refine bcall ?_ hb3 (by first | omega | (simp; done) | (simp; omega)) | refine bcall ?_ hb2 (by first | omega | (simp; done) | (simp; omega)) | refine bcall ?_ hb1 (by first | omega | (simp; done) | (simp; omega))))
  clear hb1 hb2 hb3
  obtain ⟨hc, hf⟩ := bat hb w.heap.size (by simp)
  go_wp2
  exact bodyPost_ret (v := .agg #[.int .i64 0, .int .i64 ((a * b) % q)]) (by simp [results, Tryz.results151, go_sem, hc]) rfl ⟨rfl, (by have zz0 := (hb).size; (try simp at zz0); repeat (first | exact Below.refl _ _ | refine Below.drew ?_ | refine below_drewN ?_ _ | refine Below.setCell ?_ (by first | omega | (simp; done) | (simp; omega)) _ | refine Below.alloc ?_ (by first | omega | (simp; done) | (simp; omega)) _ | refine bcall ?_ hb (by first | omega | (simp; done) | (simp; omega))))⟩
end Go.Proofs.YtepobckhfodngaoGreat
