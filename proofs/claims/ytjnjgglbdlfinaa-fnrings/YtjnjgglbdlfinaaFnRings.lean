/-
  FnRings answers true whatever bytes it draws from: what was put to an element and taken again is gone, and a product of a sum is the sum of both products.
-/
import Derived.Test.YtjnjgglbdlfinaaElem
import Derived.Test.YtjnjgglbdlfinaaDraw1
import Derived.Test.YtjnjgglbdlfinaaLw
import Derived.Deep.RegionHeld3
import Derived.ShutString
import Derived.ChangeOld
import Derived.Below
namespace Go.Proofs.Ytjnjgglbdlfinaa.fnRings
open Go.ChangeShapes Go.WideShapes Go.ChangeAt Go.RowKit
open Go.ChangeMaps (open_string shut_string)
set_option linter.unusedVariables false

theorem own : ownKnob Try.prog.godebug = none := by kernel_rfl
theorem laidOut : laidOutB Try.prog = true := by kernel_rfl

theorem six_keep {w w' : World} {a b c d e f : Addr} {s t u v x y : Value} (h : w.cell? a = some s ∧ w.cell? b = some t ∧ w.cell? c = some u ∧ w.cell? d = some v ∧ w.cell? e = some x ∧ w.cell? f = some y) (hb : Below w.heap.size w w') : w'.cell? a = some s ∧ w'.cell? b = some t ∧ w'.cell? c = some u ∧ w'.cell? d = some v ∧ w'.cell? e = some x ∧ w'.cell? f = some y :=
  ⟨kcell h.1 hb, kcell h.2.1 hb, kcell h.2.2.1 hb, kcell h.2.2.2.1 hb, kcell h.2.2.2.2.1 hb, kcell h.2.2.2.2.2 hb⟩
theorem sub_back (q x y : Int) (h : 0 ≤ x) (h' : x < q) : ((x + y) % q - y) % q = x := by
  rw [Int.emod_sub_emod, Int.add_sub_cancel, Int.emod_eq_of_lt h h']
theorem add_back (q x y : Int) (h : 0 ≤ x) (h' : x < q) : ((x - y) % q + y) % q = x := by
  rw [Int.emod_add_emod, Int.sub_add_cancel, Int.emod_eq_of_lt h h']
theorem dist (q x y c : Int) : ((x * c) % q + (y * c) % q) % q = ((x + y) % q * c) % q := by
  rw [← Int.add_emod, ← Int.add_mul, Int.mul_emod (x + y) c, Int.mul_emod ((x + y) % q) c, Int.emod_emod]
theorem okR_of {q a b : Int} (hq : q = 2 ∨ q = 256) (h1 : 0 ≤ a) (h2 : a < q) (h3 : 0 ≤ b) (h4 : b < q) : okR q a b := ⟨hq, h1, h2, h3, h4⟩
set_option maxHeartbeats 4000000 in
set_option maxRecDepth 100000 in
theorem walk (a0 : Option Addr) (len0 cap0 : Nat) (z0 : List Int) (w : World) (w0 : IsRow .u8 w a0 len0 cap0 z0) :
    Calls Try.prog 3 #[.slice a0 len0 cap0] w fun e w' => e = .returned (.bool true) ∧ Below w.heap.size w w' := by
  obtain ⟨xs, rfl, hr, hw⟩ := w0.reads
  clear w0
  have hby := bytes_of hw
  clear hw
  by_cases hl : 1048576 < xs.length
  · go_enter Try.func3, Try.ntmps3
    go_wp2_with fail
    refine (lwBig_yes _ _ _ _ hl).mono ?_
    rintro e w' ⟨rfl, rfl⟩
    go_wp2
    go_ret
    exact ⟨rfl, Below.refl _ _⟩
  · have hl' : xs.length ≤ 1048576 := by omega
    go_enter Try.func3, Try.ntmps3
    go_wp2_with fail
    refine (lwBig_no _ _ _ _ hl').mono ?_
    rintro e w' ⟨rfl, rfl⟩
    go_wp2_with fail
    refine (spec_DrawAddRing a0 cap0 xs w hr hl' hby).mono ?_
    rintro e w1 ⟨q, x, y, rfl, bq, bx, bv, hb1⟩
    by_cases h : okR q x y
    · have h' := h
      obtain ⟨hq, h1, h2, h3, h4⟩ := h'
      have hq0 : 0 < q := by omega
      have s1 : 0 ≤ (x + y) % q := Int.emod_nonneg _ (by omega)
      have s2 : (x + y) % q < q := Int.emod_lt_of_pos _ hq0
      have d1 : 0 ≤ (x - y) % q := Int.emod_nonneg _ (by omega)
      have d2 : (x - y) % q < q := Int.emod_lt_of_pos _ hq0
      have KA := fun w => impl_AddRing_yes q x y w h
      have KS := fun w => impl_SubRing_yes q x y w h
      have KM := fun w => impl_MulRing_yes q x y w h
      have K1 := fun w => impl_SubRing_yes q ((x + y) % q) y w (okR_of hq s1 s2 h3 h4)
      have K2 := fun w => impl_AddRing_yes q ((x - y) % q) y w (okR_of hq d1 d2 h3 h4)
      have K3 := fun w => impl_AddRing_yes q y x w (okR_of hq h3 h4 h1 h2)
      have K4 := fun w => impl_MulRing_yes q y x w (okR_of hq h3 h4 h1 h2)
      have K6 := fun w => lwMod_at q (x + y) w (by omega) (by omega)
      have K7 := fun w => lwMod_at q (x * y) w (by omega) (by omega)
      have K8 := fun w => impl_MulRing_yes q x 1 w (okR_of hq h1 h2 (by omega) (by omega))
      rw [sub_back q x y h1 h2] at K1
      rw [add_back q x y h1 h2] at K2
      rw [Int.add_comm y x] at K3
      rw [Int.mul_comm y x] at K4
      rw [Int.mul_one, Int.emod_eq_of_lt h1 h2] at K8
      have HL : ∀ c, Hid (((x * c) % q + (y * c) % q) % q = ((x + y) % q * c) % q) := fun c => dist q x y c
      have b1 : 0 ≤ x * y := Int.mul_nonneg h1 h3
      have b2 : x * y ≤ 65025 := by
        have := Int.mul_le_mul (show x ≤ 255 by omega) (show y ≤ 255 by omega) h3 (by omega)
        omega
      generalize (x + y) % q = s at *
      generalize (x - y) % q = d at *
      generalize (x * y) % q = p at *
      have J : Hid (okR q x y) := h
      have KAh := hide KA
      have KSh := hide KS
      have KMh := hide KM
      have K1h := hide K1
      have K2h := hide K2
      have K3h := hide K3
      have K4h := hide K4
      have K6h := hide K6
      have K7h := hide K7
      have K8h := hide K8
      clear KA KS KM K1 K2 K3 K4 K6 K7 K8 h
      go_wp2_with fail
      refine (unhide KAh _).mono ?_
      rintro e w2 ⟨rfl, hb2⟩
      go_wp2_with fail
      refine (unhide KSh _).mono ?_
      rintro e w3 ⟨rfl, hb3⟩
      have A3 := (Blk.new w2 27 #[.int .i64 0, .int .i64 s]).keep hb3
      go_wp2_with fail
      refine (unhide KMh _).mono ?_
      rintro e w4 ⟨rfl, hb4⟩
      have A4 := (A3.alloc (.cells #[.int .i64 0, .int .i64 d] 27)).keep hb4
      have B4 := (Blk.new w3 27 #[.int .i64 0, .int .i64 d]).keep hb4
      have z3 := A3.lt
      have z4 := B4.lt
      have z4' := A4.lt
      have q4 : Below w.heap.size w w4 := (by have zz0 := (hb4).size; (try simp at zz0); have zz1 := (hb3).size; (try simp at zz1); have zz2 := (hb2).size; (try simp at zz2); have zz3 := (hb1).size; (try simp at zz3); repeat (first | exact Below.refl _ _ | refine Below.drew ?_ | refine below_drewN ?_ _ | refine Below.setCell ?_ (by first | omega | (simp; done) | (simp; omega)) _ | refine Below.alloc ?_ (by first | omega | (simp; done) | (simp; omega)) _ | refine bcall ?_ hb4 (by first | omega | (simp; done) | (simp; omega)) | refine bcall ?_ hb3 (by first | omega | (simp; done) | (simp; omega)) | refine bcall ?_ hb2 (by first | omega | (simp; done) | (simp; omega)) | refine bcall ?_ hb1 (by first | omega | (simp; done) | (simp; omega))))
      have zq4 := q4.size
      have cA := A4.at.1
      go_wp2_with fail
      clear cA
      refine (lwAt_at a0 cap0 xs 3 q _ ((hr.below q4).below ((Below.refl _ _).alloc (Nat.le_refl _) _)) hl' hby (by omega) (by omega)).mono ?_
      rintro e w5 ⟨c, rfl, hc, hb5⟩
      obtain ⟨c1, c2⟩ := hc.1 (by omega)
      have A5 := (A4.alloc (.cells #[.int .i64 0, .int .i64 p] 27)).keep hb5
      have B5 := (B4.alloc (.cells #[.int .i64 0, .int .i64 p] 27)).keep hb5
      have C5 := (Blk.new w4 27 #[.int .i64 0, .int .i64 p]).keep hb5
      have z5 := C5.lt
      have q5 : Below w.heap.size w w5 := (by have zz0 := (hb5).size; (try simp at zz0); have zz1 := (q4).size; (try simp at zz1); repeat (first | exact Below.refl _ _ | refine Below.drew ?_ | refine below_drewN ?_ _ | refine Below.setCell ?_ (by first | omega | (simp; done) | (simp; omega)) _ | refine Below.alloc ?_ (by first | omega | (simp; done) | (simp; omega)) _ | refine bcall ?_ hb5 (by first | omega | (simp; done) | (simp; omega)) | refine bcall ?_ q4 (by first | omega | (simp; done) | (simp; omega))))
      clear A3 A4 B4 hb1 hb2 hb3 hb4 hb5 q4 hr hby
      have HLc := HL c
      have KL := fun w => impl_MulRing_yes q s c w (okR_of hq s1 s2 c1 c2)
      have KX := fun w => impl_MulRing_yes q x c w (okR_of hq h1 h2 c1 c2)
      have KY := fun w => impl_MulRing_yes q y c w (okR_of hq h3 h4 c1 c2)
      have u1 : 0 ≤ (x * c) % q := Int.emod_nonneg _ (by omega)
      have u2 : (x * c) % q < q := Int.emod_lt_of_pos _ hq0
      have v1 : 0 ≤ (y * c) % q := Int.emod_nonneg _ (by omega)
      have v2 : (y * c) % q < q := Int.emod_lt_of_pos _ hq0
      have K5 := fun w => impl_AddRing_yes q ((x * c) % q) ((y * c) % q) w (okR_of hq u1 u2 v1 v2)
      rw [HLc.out] at K5
      clear HL HLc
      generalize (x * c) % q = u at *
      generalize (y * c) % q = v at *
      generalize (s * c) % q = l at *
      have KLh := hide KL
      have KXh := hide KX
      have KYh := hide KY
      have K5h := hide K5
      clear KL KX KY K5
      have cA := A5.at.1
      go_wp2_with fail
      clear cA
      refine (unhide KLh _).mono ?_
      rintro e w6 ⟨rfl, hb6⟩
      have A6 := A5.keep hb6
      have B6 := B5.keep hb6
      have C6 := C5.keep hb6
      go_wp2_with fail
      refine (unhide KXh _).mono ?_
      rintro e w7 ⟨rfl, hb7⟩
      have A7 := (A6.alloc (.cells #[.int .i64 0, .int .i64 l] 27)).keep hb7
      have B7 := (B6.alloc (.cells #[.int .i64 0, .int .i64 l] 27)).keep hb7
      have C7 := (C6.alloc (.cells #[.int .i64 0, .int .i64 l] 27)).keep hb7
      have L7 := (Blk.new w6 27 #[.int .i64 0, .int .i64 l]).keep hb7
      go_wp2_with fail
      refine (unhide KYh _).mono ?_
      rintro e w8 ⟨rfl, hb8⟩
      have A8 := ((A7.alloc (.cells #[.int .i64 0, .int .i64 u] 27)).keep hb8).alloc (.cells #[.int .i64 0, .int .i64 v] 27)
      have B8 := ((B7.alloc (.cells #[.int .i64 0, .int .i64 u] 27)).keep hb8).alloc (.cells #[.int .i64 0, .int .i64 v] 27)
      have C8 := ((C7.alloc (.cells #[.int .i64 0, .int .i64 u] 27)).keep hb8).alloc (.cells #[.int .i64 0, .int .i64 v] 27)
      have L8 := ((L7.alloc (.cells #[.int .i64 0, .int .i64 u] 27)).keep hb8).alloc (.cells #[.int .i64 0, .int .i64 v] 27)
      have X8 := ((Blk.new w7 27 #[.int .i64 0, .int .i64 u]).keep hb8).alloc (.cells #[.int .i64 0, .int .i64 v] 27)
      have Y8 := Blk.new w8 27 #[.int .i64 0, .int .i64 v]
      have zq5 := q5.size
      have q8 : Below w.heap.size w (w8.alloc (.cells #[.int .i64 0, .int .i64 v] 27)) := (by have zz0 := (hb8).size; (try simp at zz0); have zz1 := (hb7).size; (try simp at zz1); have zz2 := (hb6).size; (try simp at zz2); have zz3 := (q5).size; (try simp at zz3); repeat (first | exact Below.refl _ _ | refine Below.drew ?_ | refine below_drewN ?_ _ | refine Below.setCell ?_ (by first | omega | (simp; done) | (simp; omega)) _ | refine Below.alloc ?_ (by first | omega | (simp; done) | (simp; omega)) _ | refine bcall ?_ hb8 (by first | omega | (simp; done) | (simp; omega)) | refine bcall ?_ hb7 (by first | omega | (simp; done) | (simp; omega)) | refine bcall ?_ hb6 (by first | omega | (simp; done) | (simp; omega)) | refine bcall ?_ q5 (by first | omega | (simp; done) | (simp; omega))))
      go_wp2_with fail
      generalize w8.alloc (.cells #[.int .i64 0, .int .i64 v] 27) = W at *
      generalize w2.heap.size = gA at *
      generalize w3.heap.size = gB at *
      generalize w4.heap.size = gC at *
      generalize w6.heap.size = gL at *
      generalize w7.heap.size = gX at *
      generalize w8.heap.size = gY at *
      have hS0 : (fun w' : World => w'.cell? ⟨gA, 1, none⟩ = some (.int .i64 s) ∧ w'.cell? ⟨gB, 1, none⟩ = some (.int .i64 d) ∧ w'.cell? ⟨gC, 1, none⟩ = some (.int .i64 p) ∧ w'.cell? ⟨gL, 1, none⟩ = some (.int .i64 l) ∧ w'.cell? ⟨gX, 1, none⟩ = some (.int .i64 u) ∧ w'.cell? ⟨gY, 1, none⟩ = some (.int .i64 v)) W := ⟨A8.at.1 1, B8.at.1 1, C8.at.1 1, L8.at.1 1, X8.at.1 1, Y8.at.1 1⟩
      dsimp only at hS0
      clear A5 B5 C5 A6 B6 C6 A7 B7 C7 L7 A8 B8 C8 L8 X8 Y8 hb6 hb7 hb8 q5
      clear KAh KSh KMh KLh KXh KYh
      have fd := field_1
      have wr1 : IntKind.i64.wrap (x + y) = x + y := by rw [IntWalk.i64_left]; exact IntWalk.wrap64_in _ ⟨by omega, by omega⟩
      have wr2 : IntKind.i64.wrap (x * y) = x * y := by rw [IntWalk.i64_left]; exact IntWalk.wrap64_in _ ⟨by omega, by omega⟩
      simp only [List.append_eq, List.cons_append, List.nil_append]
      have t1 : True := trivial
      have t2 : True := trivial
      have t3 : True := trivial
      have t4 : True := trivial
      have t5 : True := trivial
      have t6 : True := trivial
      have t7 : True := trivial
      go_region_held3 (fun w' => w'.cell? ⟨gA, 1, none⟩ = some (.int .i64 s) ∧ w'.cell? ⟨gB, 1, none⟩ = some (.int .i64 d) ∧ w'.cell? ⟨gC, 1, none⟩ = some (.int .i64 p) ∧ w'.cell? ⟨gL, 1, none⟩ = some (.int .i64 l) ∧ w'.cell? ⟨gX, 1, none⟩ = some (.int .i64 u) ∧ w'.cell? ⟨gY, 1, none⟩ = some (.int .i64 v)) (first | exact hS0 | exact hS1 | exact hS2 | exact hS3 | exact hS4 | exact hS5 | exact hS6 | exact hS7 | exact hS8) (first | (go_at_call 9; refine (unhide K1h _).mono ?_; rintro e v1 ⟨rfl, k1⟩; have hS1 := six_keep (w := W.drew) hS0 k1) | (go_at_call 8; have _t := t2; refine (unhide K2h _).mono ?_; rintro e v2 ⟨rfl, k2⟩; have hS2 := six_keep hS1 k2; clear t2) | (go_at_call 8; have _t := t3; refine (unhide K3h _).mono ?_; rintro e v3 ⟨rfl, k3⟩; have hS3 := six_keep hS2 k3; clear t3) | (go_at_call 10; have _t := t4; refine (unhide K4h _).mono ?_; rintro e v4 ⟨rfl, k4⟩; have hS4 := six_keep hS3 k4; clear t4) | (go_at_call 8; refine (unhide K5h _).mono ?_; rintro e v5 ⟨rfl, k5⟩; have hS5 := six_keep hS4 k5) | (go_at_call 13; have _t := t6; refine (unhide K6h _).mono ?_; rintro e v6 ⟨rfl, k6⟩; subst k6; have hS6 := hS5; clear t6) | (go_at_call 13; refine (unhide K7h _).mono ?_; rintro e v7 ⟨rfl, k7⟩; subst k7; have hS7 := hS5) | (go_at_call 10; refine (unhide K8h _).mono ?_; rintro e v8 ⟨rfl, k8⟩; have hS8 := six_keep hS5 k8))
      go_wp2
      go_ret
      exact ⟨rfl, (by have zz0 := (k8).size; (try simp at zz0); have zz1 := (k5).size; (try simp at zz1); have zz2 := (k4).size; (try simp at zz2); have zz3 := (k3).size; (try simp at zz3); have zz4 := (k2).size; (try simp at zz4); have zz5 := (k1).size; (try simp at zz5); have zz6 := (q8).size; (try simp at zz6); repeat (first | exact Below.refl _ _ | refine Below.drew ?_ | refine below_drewN ?_ _ | refine Below.setCell ?_ (by first | omega | (simp; done) | (simp; omega)) _ | refine Below.alloc ?_ (by first | omega | (simp; done) | (simp; omega)) _ | refine bcall ?_ k8 (by first | omega | (simp; done) | (simp; omega)) | refine bcall ?_ k5 (by first | omega | (simp; done) | (simp; omega)) | refine bcall ?_ k4 (by first | omega | (simp; done) | (simp; omega)) | refine bcall ?_ k3 (by first | omega | (simp; done) | (simp; omega)) | refine bcall ?_ k2 (by first | omega | (simp; done) | (simp; omega)) | refine bcall ?_ k1 (by first | omega | (simp; done) | (simp; omega)) | refine bcall ?_ q8 (by first | omega | (simp; done) | (simp; omega))))⟩
    · go_wp2_with fail
      refine (impl_AddRing_no _ _ _ _ h).mono ?_
      rintro e w2 ⟨rfl, hb2⟩
      go_wp2_with fail
      refine (impl_SubRing_no _ _ _ _ h).mono ?_
      rintro e w3 ⟨rfl, hb3⟩
      have A3 := (Blk.new w2 27 #[.int .i64 3, .int .i64 0]).keep hb3
      go_wp2_with fail
      refine (impl_MulRing_no _ _ _ _ h).mono ?_
      rintro e w4 ⟨rfl, hb4⟩
      have A4 := (A3.alloc (.cells #[.int .i64 3, .int .i64 0] 27)).keep hb4
      have B4 := (Blk.new w3 27 #[.int .i64 3, .int .i64 0]).keep hb4
      have z3 := A3.lt
      have z4 := B4.lt
      have z4' := A4.lt
      have cA := A4.at.1
      have cB := B4.at.1
      go_wp2_with fail
      have A5 := A4.alloc (.cells #[.int .i64 3, .int .i64 0] 27)
      have B5 := B4.alloc (.cells #[.int .i64 3, .int .i64 0] 27)
      have C5 := Blk.new w4 27 #[.int .i64 3, .int .i64 0]
      have q5 : Below w.heap.size w (w4.alloc (.cells #[.int .i64 3, .int .i64 0] 27)) := (by have zz0 := (hb4).size; (try simp at zz0); have zz1 := (hb3).size; (try simp at zz1); have zz2 := (hb2).size; (try simp at zz2); have zz3 := (hb1).size; (try simp at zz3); repeat (first | exact Below.refl _ _ | refine Below.drew ?_ | refine below_drewN ?_ _ | refine Below.setCell ?_ (by first | omega | (simp; done) | (simp; omega)) _ | refine Below.alloc ?_ (by first | omega | (simp; done) | (simp; omega)) _ | refine bcall ?_ hb4 (by first | omega | (simp; done) | (simp; omega)) | refine bcall ?_ hb3 (by first | omega | (simp; done) | (simp; omega)) | refine bcall ?_ hb2 (by first | omega | (simp; done) | (simp; omega)) | refine bcall ?_ hb1 (by first | omega | (simp; done) | (simp; omega))))
      generalize w4.alloc (.cells #[.int .i64 3, .int .i64 0] 27) = W at *
      generalize w2.heap.size = gA at *
      generalize w3.heap.size = gB at *
      generalize w4.heap.size = gC at *
      have hS0 : W.cell? ⟨gA, 0, none⟩ = some (.int .i64 3) ∧ W.cell? ⟨gB, 0, none⟩ = some (.int .i64 3) ∧ W.cell? ⟨gC, 0, none⟩ = some (.int .i64 3) := ⟨A5.at.1 0, B5.at.1 0, C5.at.1 0⟩
      clear cA cB A5 B5 C5 A4 B4 A3 hb4 hb3 hb2 hb1 hr hby
      have fd := field_0
      go_region_held3 (fun w' => w'.cell? ⟨gA, 0, none⟩ = some (.int .i64 3) ∧ w'.cell? ⟨gB, 0, none⟩ = some (.int .i64 3) ∧ w'.cell? ⟨gC, 0, none⟩ = some (.int .i64 3)) (first | exact hS0 | exact hS6) (first | (go_at_call 11; refine (spec_AddRing_no q x y _ h).mono ?_; rintro e w6 ⟨rfl, hb6⟩; have hS6 : w6.cell? ⟨gA, 0, none⟩ = some (.int .i64 3) ∧ w6.cell? ⟨gB, 0, none⟩ = some (.int .i64 3) ∧ w6.cell? ⟨gC, 0, none⟩ = some (.int .i64 3) := ⟨kcell (w := W.drew) hS0.1 hb6, kcell (w := W.drew) hS0.2.1 hb6, kcell (w := W.drew) hS0.2.2 hb6⟩))
      go_wp2
      go_ret
      exact ⟨rfl, bcall q5.drew hb6 q5.size⟩

/-! the row's step -/
set_option maxRecDepth 100000 in
theorem lifted (os : Os) (started : os.Started) (H : Type) (enc : TypeId × Value → H) :
    ReturnsInHanded {} Try.checked os 3 .any (Rows.fnRingsSpec.pre6 enc Try.prog Try.f3 Rows.fnRingsRow.domain false) (Rows.fnRingsSpec.post enc Try.prog Try.f3 false true false false) := by
  refine returnsInHanded_of_change (C := Try.checked) own started (by kernel_rfl) Try.func3
    (ChangeSpec.witness6 (enc := enc) (C := Try.checked) false ⟨#[], #[.slice none 0 0], []⟩ 8 (by kernel_rfl) (by kernel_rfl) (by kernel_rfl) (by kernel_rfl)) ?_
  intro W base args ds gs before hval0 hW hcnd _
  have hval : ∀ (j : Nat) t v, Try.f3.params[j]? = some t → args[j]? = some v → Value.okWide Try.prog W .any base t v := hval0
  have hW' := hW
  obtain ⟨p, q, hA0, hV, rfl, hfz, hnd⟩ := hW
  have hA : DataW.TrodAll enc Try.prog W 0 (fun _ => true) true Try.f3.params.toList args.toList ds p := hA0
  rw [Try.params3] at hA hval
  obtain ⟨v0, vs0, d0, ds0, p0, q0, hargs, rfl, rfl, h0, r0⟩ := trodAll_cons hA
  obtain ⟨rfl, rfl, rfl⟩ := trodAll_nil r0
  obtain rfl : args = #[v0] := by cases args; simp_all
  obtain ⟨rfl, rfl⟩ := trodVars_none hV
  obtain ⟨a0, len0, cap0, rfl⟩ := okWide_slice Try.underlying22 (hval 0 22 v0 rfl rfl)
  have k0 := h0
  have lt0 : ∀ x ∈ p0, x.block < W.heap.size := by obtain ⟨m, hm⟩ := k0; exact DataW.trod_lt m _ _ _ hm
  obtain ⟨z0, w0⟩ : ∃ zs, IsRow .u8 W a0 len0 cap0 zs := by
    obtain ⟨fuel, hf⟩ := h0
    rcases open_ints Try.underlying22 Try.underlying5 (by kernel_rfl) hf with ⟨hcs, _⟩ | ⟨x, l, c, zs, hcs, _, hl, hm, hz, _, hcell, hwz⟩
    · simp [Value.cells] at hcs
      obtain ⟨rfl, rfl, rfl⟩ := hcs
      exact ⟨[], .inl ⟨rfl, rfl, rfl, rfl⟩⟩
    · simp [Value.cells] at hcs
      obtain ⟨rfl, rfl, rfl⟩ := hcs
      exact ⟨zs, .inr ⟨_, rfl, hl, hm, by simpa using hz, hcell, hwz⟩⟩
  clear hA0 hval0
  refine (walk a0 len0 cap0 z0 W w0).mono fun e W' ⟨he, bel⟩ => ?_
  subst he
  exact ⟨_, rfl, _, _, _, [], _, [], hW', trodAll_mk1 (shut_bool Try.underlying4 _), (trodAll_cons_mk (Below.trod laidOut (by kernel_rfl) (of_decide_eq_true (by kernel_rfl)) k0 bel lt0) trodAll_mk0), rfl, bel.frame _, fun h => by cases h⟩

theorem over : Rows.fnRingsRow.holds Try.pinned (OpenSpec.ofChange Rows.fnRingsSpec) :=
  OpenClaim.holds_of_wide 3 Try.f3 rfl rfl rfl rfl rfl rfl rfl ⟨rfl, rfl, rfl, rfl, rfl⟩ rfl rfl rfl rfl rfl (by kernel_rfl) Try.func3 (by kernel_rfl)
    (of_decide_eq_true (by kernel_rfl)) (by unfold Func.isWrapper; first | (rw [if_pos (by decide +kernel)]; kernel_rfl) | (rw [if_neg (by decide +kernel)]; exact ⟨rfl, rfl⟩))
    (fun os started H enc _ => lifted os started H enc)

end Go.Proofs.Ytjnjgglbdlfinaa.fnRings
namespace Go.Proofs.Ytjnjgglbdlfinaa
theorem fnRings_holds : Rows.FnRingsSaid := fnRings.over
#print axioms fnRings_holds
end Go.Proofs.Ytjnjgglbdlfinaa
