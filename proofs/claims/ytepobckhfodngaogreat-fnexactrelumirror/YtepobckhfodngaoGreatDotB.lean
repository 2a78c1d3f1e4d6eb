/-
  Contracts of chapter 5: what two parts make together, in the program and in its model.
-/
import Derived.Test.YtepobckhfodngaoGreatV5
import Derived.Test.YtepobckhfodngaoGreatDotA
import Derived.Test.YtepobckhfodngaoGreatMirI
import Derived.Deep.CutRange
import Derived.Deep.RegionHeld3
namespace Go.Proofs.YtepobckhfodngaoGreat
open Go.ChangeShapes Go.WideShapes Go.ChangeAt Go.RowKit
set_option linter.unusedVariables false

def crossV (q : Int) (xs ys : List Int) (i j : Int) : Int := (xs.getD i.toNat 0 * ys.getD j.toNat 0 + xs.getD j.toNat 0 * ys.getD i.toNat 0) % q
def crossR (q : Int) (xs ys : List Int) (i j : Int) : MIntResult := if (q = 2 ∨ q = 256) ∧ Two i j then (if xs.length = 4 ∧ ys.length = 4 then (if okV q xs = true ∧ okV q ys = true then ⟨0, crossV q xs ys i j⟩ else ⟨3, 0⟩) else ⟨1, 0⟩) else ⟨3, 0⟩
theorem crossR_out {q : Int} {xs ys : List Int} {i j : Int} (h : ¬ ((q = 2 ∨ q = 256) ∧ Two i j)) : crossR q xs ys i j = ⟨3, 0⟩ := if_neg h
theorem crossR_form {q : Int} {xs ys : List Int} {i j : Int} (h : (q = 2 ∨ q = 256) ∧ Two i j) (k : ¬ (xs.length = 4 ∧ ys.length = 4)) : crossR q xs ys i j = ⟨1, 0⟩ := by unfold crossR; rw [if_pos h, if_neg k]
theorem crossR_bad {q : Int} {xs ys : List Int} {i j : Int} (h : (q = 2 ∨ q = 256) ∧ Two i j) (k : xs.length = 4 ∧ ys.length = 4) (l : ¬ (okV q xs = true ∧ okV q ys = true)) : crossR q xs ys i j = ⟨3, 0⟩ := by unfold crossR; rw [if_pos h, if_pos k, if_neg l]
theorem crossR_in {q : Int} {xs ys : List Int} {i j : Int} (h : (q = 2 ∨ q = 256) ∧ Two i j) (k : xs.length = 4 ∧ ys.length = 4) (l : okV q xs = true ∧ okV q ys = true) : crossR q xs ys i j = ⟨0, crossV q xs ys i j⟩ := by unfold crossR; rw [if_pos h, if_pos k, if_pos l]
theorem mod_two (a b q : Int) : (a % q + b % q) % q = (a + b) % q := by rw [Int.add_emod a b q]
theorem ag_at (xs : List Int) (h4 : xs.length = 4) (i : Nat) (hi : i < 4) : ((xs.map (Value.int .i64)).toArray : Array Value)[i]? = some (.int .i64 (xs.getD i 0)) := by
  simp [h4, hi]
set_option maxHeartbeats 4000000 in
set_option maxRecDepth 100000 in
theorem impl_crossOf (q : Int) (xs ys : List Int) (i j : Nat) (w : World) (hq : q = 2 ∨ q = 256) (hx : xs.length = 4) (hy : ys.length = 4) (ox : okV q xs = true) (oy : okV q ys = true) (hi : i < 4) (hj : j < 4) :
    Calls Tryz.prog 161 #[.int .i64 q, ag xs, ag ys, .int .i64 i, .int .i64 j] w fun e w' => e = .returned (.agg #[.int .u16 q, .int .u16 (crossV q xs ys i j)]) ∧ Below w.heap.size w w' := by
  have bx := (okV_iff q xs).1 ox
  have bY := (okV_iff q ys).1 oy
  have HV : Hid (crossV q xs ys i j = ((xs.getD i 0 * ys.getD j 0) % q + (xs.getD j 0 * ys.getD i 0) % q) % q) := (mod_two _ _ _).symm
  obtain ⟨w0, hw0⟩ : ∃ x, x = ((w.alloc (.cells (xs.map (Value.int .i64)).toArray 83)).alloc (.cells (ys.map (Value.int .i64)).toArray 83)).alloc (.cells #[.int .u16 0, .int .u16 0] 174) := ⟨_, rfl⟩
  have X0 : Blk w0 w.heap.size 83 (xs.map (Value.int .i64)).toArray := by rw [hw0]; exact ((Blk.new w _ _).alloc _).alloc _
  have Y0 : Blk w0 (w.heap.size + 1) 83 (ys.map (Value.int .i64)).toArray := by rw [hw0]; have := (Blk.new (w.alloc (.cells (xs.map (Value.int .i64)).toArray 83)) 83 (ys.map (Value.int .i64)).toArray).alloc (.cells #[.int .u16 0, .int .u16 0] 174); simpa using this
  have Z0 : Blk w0 (w.heap.size + 2) 174 #[.int .u16 0, .int .u16 0] := by rw [hw0]; have := Blk.new ((w.alloc (.cells (xs.map (Value.int .i64)).toArray 83)).alloc (.cells (ys.map (Value.int .i64)).toArray 83)) 174 #[.int .u16 0, .int .u16 0]; simpa using this
  have B0 : Below w.heap.size w w0 := by rw [hw0]; exact (by repeat (first | exact Below.refl _ _ | refine Below.drew ?_ | refine below_drewN ?_ _ | refine Below.setCell ?_ (by first | omega | (simp; done) | (simp; omega)) _ | refine Below.alloc ?_ (by first | omega | (simp; done) | (simp; omega)) _))
  have xi : w0.cell? ⟨w.heap.size, i, none⟩ = some (.int .i64 (xs.getD i 0)) := by rw [X0.at.1]; exact ag_at xs hx i hi
  have xj : w0.cell? ⟨w.heap.size, j, none⟩ = some (.int .i64 (xs.getD j 0)) := by rw [X0.at.1]; exact ag_at xs hx j hj
  have yi : w0.cell? ⟨w.heap.size + 1, i, none⟩ = some (.int .i64 (ys.getD i 0)) := by rw [Y0.at.1]; exact ag_at ys hy i hi
  have yj : w0.cell? ⟨w.heap.size + 1, j, none⟩ = some (.int .i64 (ys.getD j 0)) := by rw [Y0.at.1]; exact ag_at ys hy j hj
  have bxi := bx i (by omega)
  have bxj := bx j (by omega)
  have byi := bY i (by omega)
  have byj := bY j (by omega)
  have hii : (i : Int) < 4 := by omega
  have hjj : (j : Int) < 4 := by omega
  have lX := X0.lt
  have lY := Y0.lt
  have HS : Hid (∀ V, Below w0.heap.size w0 V → (V.cell? ⟨w.heap.size, i, none⟩ = some (.int .i64 (xs.getD i 0)) ∧ V.cell? ⟨w.heap.size, j, none⟩ = some (.int .i64 (xs.getD j 0))) ∧ (V.cell? ⟨w.heap.size + 1, i, none⟩ = some (.int .i64 (ys.getD i 0)) ∧ V.cell? ⟨w.heap.size + 1, j, none⟩ = some (.int .i64 (ys.getD j 0)))) := fun V b => ⟨⟨(b.cell (p := ⟨w.heap.size, i, none⟩) lX).trans xi, (b.cell (p := ⟨w.heap.size, j, none⟩) lX).trans xj⟩, ⟨(b.cell (p := ⟨w.heap.size + 1, i, none⟩) lY).trans yi, (b.cell (p := ⟨w.heap.size + 1, j, none⟩) lY).trans yj⟩⟩
  have q1 : 1 ≤ q := by omega
  have q2 : q ≤ 256 := by omega
  clear bx bY ox oy xi xj yi yj X0 Y0 lX lY
  generalize xs.getD i 0 = xI at *
  generalize xs.getD j 0 = xJ at *
  generalize ys.getD i 0 = yI at *
  generalize ys.getD j 0 = yJ at *
  unfold ag
  go_enter Tryz.func161, Tryz.ntmps161
  go_wp2_with fail
  rw [← hw0]
  clear hw0
  go_cut [11] from 13 (fun s wr => ∃ nz : Nat, s = .pointer (some ⟨nz, 0, none⟩) ∧ Below w0.heap.size w0 wr ∧ w0.heap.size ≤ nz ∧ Blk wr nz 174 #[.int .u16 q, .int .u16 ((xI * yJ) % q)])
  case first =>
    have BD : Below w0.heap.size w0 w0 := Below.refl _ _
    have BP := BD
    replace BD := BD.drew
    have tk0 : Hid True := trivial
    have tk1 : Hid True := trivial
    have tk2 : Hid True := trivial
    go_region_held3 (fun V => (V.cell? ⟨w.heap.size, i, none⟩ = some (.int .i64 xI) ∧ V.cell? ⟨w.heap.size, j, none⟩ = some (.int .i64 xJ)) ∧ (V.cell? ⟨w.heap.size + 1, i, none⟩ = some (.int .i64 yI) ∧ V.cell? ⟨w.heap.size + 1, j, none⟩ = some (.int .i64 yJ))) (first | with_reducible exact HS.out _ BD | with_reducible exact HS.out _ (BD.alloc BD.size _) | with_reducible exact HS.out _ (BP.alloc BP.size _).drew | exact HS.out _ ((BD.setCell (by first | omega | (simp; omega)) _).setCell (by first | omega | (simp; omega)) _)) (first | (go_at_call 136; have _t := tk0; clear _t tk0; refine (impl_elementOf q xI _ (by omega) (by omega) (by omega) (by omega)).mono ?_; rintro e wN ⟨rfl, hbN⟩; (first | (have _a := tkA; replace NB := NB.keep hbN; replace BD := BD.trans (hbN.mono BD.size); clear hbN) | (have BE : Below w0.heap.size w0 wN := (by with_reducible exact BD.trans (hbN.mono BD.size)); replace BD := BE; clear BE hbN) | (have NB := (Blk.new _ 174 #[.int .u16 0, .int .u16 0]).keep hbN; have nbl := BD.size; have tkA : Hid True := trivial; replace BD := (BD.alloc BD.size _).trans (hbN.mono (BD.alloc BD.size _).size); clear hbN) | (have NB := (Blk.new _ 174 #[.int .u16 0, .int .u16 0]).drew.keep hbN; have nbl := BP.size; have tkA : Hid True := trivial; replace BD := (BP.alloc BP.size _).drew.trans (hbN.mono (BP.alloc BP.size _).drew.size); clear hbN))) | (go_at_call 136; have _t := tk1; clear _t tk1; refine (impl_elementOf q yJ _ (by omega) (by omega) (by omega) (by omega)).mono ?_; rintro e wN ⟨rfl, hbN⟩; (first | (have _a := tkA; replace NB := NB.keep hbN; replace BD := BD.trans (hbN.mono BD.size); clear hbN) | (have BE : Below w0.heap.size w0 wN := (by with_reducible exact BD.trans (hbN.mono BD.size)); replace BD := BE; clear BE hbN) | (have NB := (Blk.new _ 174 #[.int .u16 0, .int .u16 0]).keep hbN; have nbl := BD.size; have tkA : Hid True := trivial; replace BD := (BD.alloc BD.size _).trans (hbN.mono (BD.alloc BD.size _).size); clear hbN) | (have NB := (Blk.new _ 174 #[.int .u16 0, .int .u16 0]).drew.keep hbN; have nbl := BP.size; have tkA : Hid True := trivial; replace BD := (BP.alloc BP.size _).drew.trans (hbN.mono (BP.alloc BP.size _).drew.size); clear hbN))) | (go_at_call 157; have _t := tk2; clear _t tk2; refine (impl_times q xI yJ _ (by omega) (by omega) (by omega) (by omega) (by omega) (by omega)).mono ?_; rintro e wN ⟨rfl, hbN⟩; (first | (have _a := tkA; replace NB := NB.keep hbN; replace BD := BD.trans (hbN.mono BD.size); clear hbN) | (have BE : Below w0.heap.size w0 wN := (by with_reducible exact BD.trans (hbN.mono BD.size)); replace BD := BE; clear BE hbN) | (have NB := (Blk.new _ 174 #[.int .u16 0, .int .u16 0]).keep hbN; have nbl := BD.size; have tkA : Hid True := trivial; replace BD := (BD.alloc BD.size _).trans (hbN.mono (BD.alloc BD.size _).size); clear hbN) | (have NB := (Blk.new _ 174 #[.int .u16 0, .int .u16 0]).drew.keep hbN; have nbl := BP.size; have tkA : Hid True := trivial; replace BD := (BP.alloc BP.size _).drew.trans (hbN.mono (BP.alloc BP.size _).drew.size); clear hbN)); (first | (have _a := tkA; have na := NB.at.1; have nf := NB.at.2; have nl := NB.lt) | have tkU : Hid True := trivial)))
    all_goals
      go_wp2
      go_meet
      case rel => first | (have _a := tkA; exact ⟨_, rfl, (BD.setCell (by first | omega | (simp; omega)) _).setCell (by first | omega | (simp; omega)) _, nbl, Blk.of_eq ((NB.set 0 _).set 1 _) (by simp)⟩) | (have _u := tkU; exact ⟨_, rfl, BD.alloc BD.size _, BD.size, Blk.new _ _ _⟩)
  case rest =>
    obtain ⟨n1, rfl, B1, g1, N1⟩ := hcut
    obtain ⟨w1, ew1⟩ : ∃ x : World, x = wc := ⟨_, rfl⟩
    subst ew1
    have HS1 : Hid (∀ V, Below w1.heap.size w1 V → (V.cell? ⟨w.heap.size, i, none⟩ = some (.int .i64 xI) ∧ V.cell? ⟨w.heap.size, j, none⟩ = some (.int .i64 xJ)) ∧ (V.cell? ⟨w.heap.size + 1, i, none⟩ = some (.int .i64 yI) ∧ V.cell? ⟨w.heap.size + 1, j, none⟩ = some (.int .i64 yJ))) := fun V b => HS.out V (B1.trans (b.mono B1.size))
    clear HS
    go_wp2_with fail
    go_cut [12] from 24 (fun s wr => ∃ nz : Nat, s = .pointer (some ⟨nz, 0, none⟩) ∧ Below w1.heap.size w1 wr ∧ w1.heap.size ≤ nz ∧ Blk wr nz 174 #[.int .u16 q, .int .u16 ((xJ * yI) % q)])
    case first =>
      have BD : Below w1.heap.size w1 w1 := Below.refl _ _
      have BP := BD
      replace BD := BD.drew
      have tk0 : Hid True := trivial
      have tk1 : Hid True := trivial
      have tk2 : Hid True := trivial
      go_region_held3 (fun V => (V.cell? ⟨w.heap.size, i, none⟩ = some (.int .i64 xI) ∧ V.cell? ⟨w.heap.size, j, none⟩ = some (.int .i64 xJ)) ∧ (V.cell? ⟨w.heap.size + 1, i, none⟩ = some (.int .i64 yI) ∧ V.cell? ⟨w.heap.size + 1, j, none⟩ = some (.int .i64 yJ))) (first | with_reducible exact HS1.out _ BD | with_reducible exact HS1.out _ (BD.alloc BD.size _) | with_reducible exact HS1.out _ (BP.alloc BP.size _).drew | exact HS1.out _ ((BD.setCell (by first | omega | (simp; omega)) _).setCell (by first | omega | (simp; omega)) _)) (first | (go_at_call 136; have _t := tk0; clear _t tk0; refine (impl_elementOf q xJ _ (by omega) (by omega) (by omega) (by omega)).mono ?_; rintro e wN ⟨rfl, hbN⟩; (first | (have _a := tkA; replace NB := NB.keep hbN; replace BD := BD.trans (hbN.mono BD.size); clear hbN) | (have BE : Below w1.heap.size w1 wN := (by with_reducible exact BD.trans (hbN.mono BD.size)); replace BD := BE; clear BE hbN) | (have NB := (Blk.new _ 174 #[.int .u16 0, .int .u16 0]).keep hbN; have nbl := BD.size; have tkA : Hid True := trivial; replace BD := (BD.alloc BD.size _).trans (hbN.mono (BD.alloc BD.size _).size); clear hbN) | (have NB := (Blk.new _ 174 #[.int .u16 0, .int .u16 0]).drew.keep hbN; have nbl := BP.size; have tkA : Hid True := trivial; replace BD := (BP.alloc BP.size _).drew.trans (hbN.mono (BP.alloc BP.size _).drew.size); clear hbN))) | (go_at_call 136; have _t := tk1; clear _t tk1; refine (impl_elementOf q yI _ (by omega) (by omega) (by omega) (by omega)).mono ?_; rintro e wN ⟨rfl, hbN⟩; (first | (have _a := tkA; replace NB := NB.keep hbN; replace BD := BD.trans (hbN.mono BD.size); clear hbN) | (have BE : Below w1.heap.size w1 wN := (by with_reducible exact BD.trans (hbN.mono BD.size)); replace BD := BE; clear BE hbN) | (have NB := (Blk.new _ 174 #[.int .u16 0, .int .u16 0]).keep hbN; have nbl := BD.size; have tkA : Hid True := trivial; replace BD := (BD.alloc BD.size _).trans (hbN.mono (BD.alloc BD.size _).size); clear hbN) | (have NB := (Blk.new _ 174 #[.int .u16 0, .int .u16 0]).drew.keep hbN; have nbl := BP.size; have tkA : Hid True := trivial; replace BD := (BP.alloc BP.size _).drew.trans (hbN.mono (BP.alloc BP.size _).drew.size); clear hbN))) | (go_at_call 157; have _t := tk2; clear _t tk2; refine (impl_times q xJ yI _ (by omega) (by omega) (by omega) (by omega) (by omega) (by omega)).mono ?_; rintro e wN ⟨rfl, hbN⟩; (first | (have _a := tkA; replace NB := NB.keep hbN; replace BD := BD.trans (hbN.mono BD.size); clear hbN) | (have BE : Below w1.heap.size w1 wN := (by with_reducible exact BD.trans (hbN.mono BD.size)); replace BD := BE; clear BE hbN) | (have NB := (Blk.new _ 174 #[.int .u16 0, .int .u16 0]).keep hbN; have nbl := BD.size; have tkA : Hid True := trivial; replace BD := (BD.alloc BD.size _).trans (hbN.mono (BD.alloc BD.size _).size); clear hbN) | (have NB := (Blk.new _ 174 #[.int .u16 0, .int .u16 0]).drew.keep hbN; have nbl := BP.size; have tkA : Hid True := trivial; replace BD := (BP.alloc BP.size _).drew.trans (hbN.mono (BP.alloc BP.size _).drew.size); clear hbN)); (first | (have _a := tkA; have na := NB.at.1; have nf := NB.at.2; have nl := NB.lt) | have tkU : Hid True := trivial)))
      all_goals
        go_wp2
        go_meet
        case rel => first | (have _a := tkA; exact ⟨_, rfl, (BD.setCell (by first | omega | (simp; omega)) _).setCell (by first | omega | (simp; omega)) _, nbl, Blk.of_eq ((NB.set 0 _).set 1 _) (by simp)⟩) | (have _u := tkU; exact ⟨_, rfl, BD.alloc BD.size _, BD.size, Blk.new _ _ _⟩)
    case rest =>
      obtain ⟨n2, rfl, B2, g2, N2⟩ := hcut
      replace N1 := N1.keep B2
      have B3 := B1.trans (B2.mono B1.size)
      replace Z0 := Z0.keep B3
      have a1 := N1.at.1
      have a2 := N2.at.1
      have l1 := N1.lt
      have l2 := N2.lt
      have K := impl_plus q (xI * yJ % q) (xJ * yI % q) wc q1 q2 (Int.emod_nonneg _ (by omega)) (Int.emod_lt_of_pos _ (by omega)) (Int.emod_nonneg _ (by omega)) (Int.emod_lt_of_pos _ (by omega))
      go_wp2_with fail
      refine K.mono ?_
      rintro e w5 ⟨rfl, hb5⟩
      clear a1 a2 l1 l2
      replace Z0 := Z0.keep hb5
      have B5 : Below w.heap.size w w5 := (B0.trans (B3.mono B0.size)).trans (hb5.mono (B0.trans (B3.mono B0.size)).size)
      have za := Z0.at.1
      have zb := Z0.at.2
      have zl := Z0.lt
      generalize hr : (xI * yJ % q + xJ * yI % q) % q = r at *
      clear hr
      go_wp2
      exact bodyPost_ret (v := .agg #[.int .u16 q, .int .u16 r]) (by simp [results, Tryz.results161, go_sem, za]) rfl ⟨by rw [HV.out], (by have zz0 := (B5).size; (try simp at zz0); repeat (first | exact Below.refl _ _ | refine Below.drew ?_ | refine below_drewN ?_ _ | refine Below.setCell ?_ (by first | omega | (simp; done) | (simp; omega)) _ | refine Below.alloc ?_ (by first | omega | (simp; done) | (simp; omega)) _ | refine bcall ?_ B5 (by first | omega | (simp; done) | (simp; omega))))⟩
theorem cross_small {a b c d : Int} (ha : 0 ≤ a ∧ a ≤ 255) (hb : 0 ≤ b ∧ b ≤ 255) (hc : 0 ≤ c ∧ c ≤ 255) (hd : 0 ≤ d ∧ d ≤ 255) : (0 ≤ a * b ∧ a * b ≤ 65025) ∧ (0 ≤ c * d ∧ c * d ≤ 65025) := by
  have h1 := Int.mul_le_mul ha.2 hb.2 hb.1 (by omega : (0 : Int) ≤ 255)
  have h2 := Int.mul_le_mul hc.2 hd.2 hd.1 (by omega : (0 : Int) ≤ 255)
  exact ⟨⟨Int.mul_nonneg ha.1 hb.1, by omega⟩, ⟨Int.mul_nonneg hc.1 hd.1, by omega⟩⟩
end Go.Proofs.YtepobckhfodngaoGreat
