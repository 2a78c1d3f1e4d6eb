/-
  Rows of products in the program: what a party's views tell at two places together, over all terms.
-/
import Derived.Test.YtepobckhfodngaoGreatDotP
import Derived.Test.YtepobckhfodngaoGreatDotB
namespace Go.Proofs.YtepobckhfodngaoGreat
open Go.ChangeShapes Go.WideShapes Go.ChangeAt Go.RowKit
set_option linter.unusedVariables false

/-- part of what is read -/
theorem rangeAt_row {w : World} {g o : Nat} {fx : List Int} (h : w.rangeAt g o (cells1 fx).toList) (hl : fx.length = 16) (p : Nat) (hp : p < 4) : w.rangeAt g (o + p * 4) (cells1 (row4 fx p)).toList := by
  intro j v hv
  have hj : j < 4 := by
    have := (List.getElem?_eq_some_iff.1 hv).1
    simpa [cells1, row4] using this
  rw [Nat.add_assoc]
  refine h (p * 4 + j) v ?_
  obtain ⟨a0, a1, a2, a3, b0, b1, b2, b3, c0, c1, c2, c3, d0, d1, d2, d3, rfl⟩ := lit16 hl
  obtain rfl | rfl | rfl | rfl : p = 0 ∨ p = 1 ∨ p = 2 ∨ p = 3 := by omega
  all_goals
    obtain rfl | rfl | rfl | rfl : j = 0 ∨ j = 1 ∨ j = 2 ∨ j = 3 := by omega
    all_goals exact hv
theorem okV_row {q : Int} {vss : List (List (List Int))} (h : BdT q vss) (t p : Nat) (hs : Sq (vss.getD t [])) (hp : p < 4) : okV q (row4 (vss.getD t []).flatten p) = true := by
  refine (okV_iff q _).2 fun j hj => ?_
  have hj4 : j < 4 := hj
  rw [row4_getD _ _ _ hj4, flat_getD hs p j hp hj4]
  exact h t p j
theorem crN_step (q : Int) (xss yss : List (List (List Int))) (p i j t : Nat) (hx : Sq (xss.getD t [])) (hy : Sq (yss.getD t [])) (hp : p < 4) (hi : i < 4) (hj : j < 4) : (crN xss yss p i j t % q + crossV q (row4 (xss.getD t []).flatten p) (row4 (yss.getD t []).flatten p) i j) % q = crN xss yss p i j (t + 1) % q := by
  unfold crossV
  simp only [Int.toNat_natCast]
  rw [row4_getD _ _ _ hi, row4_getD _ _ _ hj, row4_getD _ _ _ hi, row4_getD _ _ _ hj, flat_getD hx p i hp hi, flat_getD hx p j hp hj, flat_getD hy p i hp hi, flat_getD hy p j hp hj, mod_two, crN]
set_option maxHeartbeats 16000000 in
set_option maxRecDepth 100000 in
theorem impl_cross (q : Int) (gx cx gy cy n : Nat) (xss yss : List (List (List Int))) (p i j : Nat) (w : World) (X : RdVs w gx n xss) (Y : RdVs w gy n yss) (hq : q = 2 ∨ q = 256) (bx : BdT q xss) (by' : BdT q yss) (hp : p < 4) (hi : i < 4) (hj : j < 4) (hn : n ≤ 6) :
    Calls Tryz.prog 154 #[.agg #[.int .i64 q, .slice (some ⟨gx, 0, none⟩) n cx, .slice (some ⟨gy, 0, none⟩) n cy], .int .i64 p, .int .i64 i, .int .i64 j] w fun e w' => e = .returned (.int .i64 (crN xss yss p i j n % q)) ∧ Below w.heap.size w w' := by
  have HX : Hid (RdVs w gx n xss) := X
  have HY : Hid (RdVs w gy n yss) := Y
  have HBX : Hid (BdT q xss) := bx
  have HBY : Hid (BdT q yss) := by'
  have HQ : Hid (q = 2 ∨ q = 256) := hq
  have HP : Hid (p < 4 ∧ i < 4 ∧ j < 4) := ⟨hp, hi, hj⟩
  have q1 : 1 ≤ q := by omega
  have q2 : q ≤ 256 := by omega
  have lgx := X.1
  have lgy := Y.1
  have hp1 : (p : Int) < 4 := by omega
  have hp0 : (0 : Int) ≤ (p : Int) := by omega
  clear X Y bx by' hp hi hj
  have B0 : Below w.heap.size w (w.alloc (.cells #[.int .i64 q, .slice (some ⟨gx, 0, none⟩) n cx, .slice (some ⟨gy, 0, none⟩) n cy] 163)) := (by repeat (first | exact Below.refl _ _ | refine Below.drew ?_ | refine below_drewN ?_ _ | refine Below.setCell ?_ (by first | omega | (simp; done) | (simp; omega)) _ | refine Below.alloc ?_ (by first | omega | (simp; done) | (simp; omega)) _))
  have R0 := Blk.new w 163 #[.int .i64 q, .slice (some ⟨gx, 0, none⟩) n cx, .slice (some ⟨gy, 0, none⟩) n cy]
  go_enter Tryz.func154, Tryz.ntmps154
  go_wp2_with fail
  refine (impl_elementOf q 0 _ (by omega) q2 (by omega) (by omega)).mono ?_
  rintro e w1 ⟨rfl, hb1⟩
  have R1 := R0.keep hb1
  have B1 := B0.trans (hb1.mono B0.size)
  have z1 := hb1.size
  simp only [World.size_alloc] at z1
  clear R0 B0 hb1
  have En := Blk.new w1 174 #[.int .u16 0, .int .u16 0]
  go_wp2_with (refine wpList_store_blk rfl 174 _ _ rfl w1.heap.size #[.int .u16 q, .int .u16 0] rfl rfl En rfl (by kernel_rfl) (by kernel_rfl) ?_; intro w2 E2 O2; have ra := (R1.off (((Off.refl _ _).alloc _).trans O2) (by simp; omega)).at.1)
  have O2' : Off [w1.heap.size] w1 w2 := ((Off.refl _ _).alloc _).trans O2
  have R2 := R1.off O2' (by simp; omega)
  have B2 : Below w.heap.size w w2 := B1.trans (O2'.toBelow B1.size (by have := B1.size; simp; omega))
  have hg : w.heap.size < w1.heap.size := by omega
  clear En O2 O2' R1 B1 z1
  generalize w1.heap.size = g at *
  have E2' : Blk w2 g 174 #[.int .u16 q, .int .u16 (crN xss yss p i j 0 % q)] := by rw [show crN xss yss p i j 0 % q = 0 from Int.zero_emod _]; exact E2
  clear E2
  clear ra
  go_loopw [18] (fun z wr => ∃ t : Nat, t ≤ n ∧ z = .int .i64 t ∧ Blk wr w.heap.size 163 #[.int .i64 q, .slice (some ⟨gx, 0, none⟩) n cx, .slice (some ⟨gy, 0, none⟩) n cy] ∧ Blk wr g 174 #[.int .u16 q, .int .u16 (crN xss yss p i j t % q)] ∧ Below w.heap.size w wr) (fun z _ => n - (intOf z).toNat)
  case atStart => exact ⟨0, Nat.zero_le _, rfl, R2, E2', B2⟩
  case round =>
    clear R2 E2' B2
    obtain ⟨t, ht, rfl, R, E, B⟩ := hrel
    by_cases hlt : t < n
    · have hrx := ((HX.out.below B).2 t hlt).2
      have hry := ((HY.out.below B).2 t hlt).2
      have HSX : Hid (Sq (xss.getD t [])) := (HX.out.2 t hlt).1
      have HSY : Hid (Sq (yss.getD t [])) := (HY.out.2 t hlt).1
      have HFX : Hid ((xss.getD t []).flatten.length = 16) := flat_len HSX.out
      have HFY : Hid ((yss.getD t []).flatten.length = 16) := flat_len HSY.out
      have HOX : Hid (okV q (row4 (xss.getD t []).flatten p) = true) := okV_row HBX.out t p HSX.out HP.out.1
      have HOY : Hid (okV q (row4 (yss.getD t []).flatten p) = true) := okV_row HBY.out t p HSY.out HP.out.1
      have HST : Hid ((crN xss yss p i j t % q + crossV q (row4 (xss.getD t []).flatten p) (row4 (yss.getD t []).flatten p) i j) % q = crN xss yss p i j (t + 1) % q) := crN_step q xss yss p i j t HSX.out HSY.out HP.out.1 HP.out.2.1 HP.out.2.2
      have hry4 := rangeAt_row hry HFY.out p HP.out.1
      have hi' : (t : Int) < (n : Int) := by omega
      have hi0 : (0 : Int) ≤ (t : Int) := by omega
      have s1 : 0 ≤ crN xss yss p i j t % q := Int.emod_nonneg _ (by omega)
      have s2 : crN xss yss p i j t % q < q := Int.emod_lt_of_pos _ (by omega)
      have HRX : Hid ((row4 (xss.getD t []).flatten p).length = 4) := rfl
      have HRY : Hid ((row4 (yss.getD t []).flatten p).length = 4) := rfl
      have c1 : 0 ≤ crossV q (row4 (xss.getD t []).flatten p) (row4 (yss.getD t []).flatten p) i j := Int.emod_nonneg _ (by omega)
      have c2 : crossV q (row4 (xss.getD t []).flatten p) (row4 (yss.getD t []).flatten p) i j < q := Int.emod_lt_of_pos _ (by omega)
      have KC := fun W => impl_crossOf q (row4 (xss.getD t []).flatten p) (row4 (yss.getD t []).flatten p) i j W HQ.out HRX.out HRY.out HOX.out HOY.out HP.out.2.1 HP.out.2.2
      generalize crN xss yss p i j t % q = s at *
      generalize hs2 : crN xss yss p i j (t + 1) % q = sn at *
      have HS2 : Hid (crN xss yss p i j (t + 1) % q = sn) := hs2
      clear hs2 hry
      generalize crossV q (row4 (xss.getD t []).flatten p) (row4 (yss.getD t []).flatten p) i j = cv at *
      generalize row4 (yss.getD t []).flatten p = ry at *
      have HR4 : Hid (∀ V : World, ∀ g o, V.rangeAt g o (cells1 (xss.getD t []).flatten).toList → V.rangeAt g (o + p * 4) (cells1 (row4 (xss.getD t []).flatten p)).toList) := fun V g o h => rangeAt_row h HFX.out p HP.out.1
      generalize row4 (xss.getD t []).flatten p = rx at *
      generalize (xss.getD t []).flatten = fx at *
      have Zn := Blk.new wr 85 #[.int .i64 0, .int .i64 0, .int .i64 0, .int .i64 0, .int .i64 0, .int .i64 0, .int .i64 0, .int .i64 0, .int .i64 0, .int .i64 0, .int .i64 0, .int .i64 0, .int .i64 0, .int .i64 0, .int .i64 0, .int .i64 0]
      go_wp2_with (first | (refine wpList_load_mid rfl 85 _ rfl gx (t * 16) rfl (cells1 fx).toList _ hrx Tryz.underlying85 rfl (by rw [Array.length_toList, cells1_size, HFX.out]; kernel_rfl) ?_) | (refine wpList_store_blk rfl 85 _ _ rfl wr.heap.size (cells1 fx) rfl rfl Zn (by rw [cells1_size, HFX.out]; rfl) (by rw [cells1_size, HFX.out]; kernel_rfl) (cells1_one _) ?_; intro w3 X3 O3))
      have O3' : Off [wr.heap.size] wr w3 := ((Off.refl _ _).alloc _).trans O3
      have zB := B.size
      have zE := E.lt
      have R3 := (R.off O3' (by simp; omega)).drew
      have E3 := (E.off O3' (by simp; omega)).drew
      have B3 : Below w.heap.size w w3.drew := (B.trans (O3'.toBelow zB (by simp; omega))).drew
      have hbx := HR4.out w3 wr.heap.size 0 (X3.range)
      have hby : w3.rangeAt gy (t * 16 + p * 4) (cells1 ry).toList := fun m v hv => ((O3'.at gy (by omega) (by simp; omega)).1 _).trans (hry4 m v hv)
      rw [Nat.zero_add] at hbx
      have lbx := X3.lt
      have HRR : Hid (∀ V, Off [g] w3.drew V → Blk V w.heap.size 163 #[.int .i64 q, .slice (some ⟨gx, 0, none⟩) n cx, .slice (some ⟨gy, 0, none⟩) n cy]) := fun V O => R3.off O (by simp; omega)
      have HSS : Hid (∀ V, Off [g] w3.drew V → (∀ o, V.cell? ⟨w.heap.size, o, none⟩ = (#[.int .i64 q, .slice (some ⟨gx, 0, none⟩) n cx, .slice (some ⟨gy, 0, none⟩) n cy] : Array Value)[o]?) ∧ V.rangeAt wr.heap.size (p * 4) (cells1 rx).toList ∧ V.rangeAt gy (t * 16 + p * 4) (cells1 ry).toList) := fun V O => ⟨(R3.off O (by simp; omega)).at.1, fun m v hv => ((O.at wr.heap.size (by simpa using lbx) (by simp; omega)).1 _).trans (hbx m v hv), fun m v hv => ((O.at gy (by have := B3.size; simp at this ⊢; omega) (by simp; omega)).1 _).trans (hby m v hv)⟩
      clear hrx hry4 HR4 Zn O3 O3' X3 R E B hbx hby R3 zE
      have Od : Off [g] w3.drew w3.drew := Off.refl _ _
      have leb := E3.lt
      generalize hgb : wr.heap.size = gb at *
      have HGB : Hid (wr.heap.size = gb) := hgb
      clear hgb
      go_wp2_with fail
      refine wp_region_held (S := fun V => (∀ o, V.cell? ⟨w.heap.size, o, none⟩ = (#[.int .i64 q, .slice (some ⟨gx, 0, none⟩) n cx, .slice (some ⟨gy, 0, none⟩) n cy] : Array Value)[o]?) ∧ V.rangeAt gb (p * 4) (cells1 rx).toList ∧ V.rangeAt gy (t * 16 + p * 4) (cells1 ry).toList) (by kernel_rfl) ?_
      try (change wpAnyH _ _ _ _ _ _ _ _ (World.drew _))
      have hS := HSS.out _ Od
      refine wpAnyH_take (i := 1) (v := .pointer (some ⟨w.heap.size, 0, none⟩)) rfl (by kernel_rfl) (by kernel_rfl) (by kernel_rfl) (fun _ _ _ h => h) (Or.inl ⟨by rfl, ?_⟩) hS ?_
      · intro w' hSw
        go_simp
      (try simp only [List.getElem_toArray]); (try simp only [List.getElem_cons_succ]); (try simp only [List.getElem_cons_zero]); (try simp only [Act.put]); (try simp only [List.setIfInBounds_toArray]); (try simp only [List.set_cons_succ]); (try simp only [List.set_cons_zero])
      refine wpAnyH_take (i := 2) (v := .int .i64 q) rfl (by kernel_rfl) (by kernel_rfl) (by kernel_rfl) (fun _ _ _ h => h) (Or.inl ⟨by rfl, ?_⟩) hS ?_
      · intro w' hSw
        have h0 := hSw.1 0; go_simp
      (try simp only [List.getElem_toArray]); (try simp only [List.getElem_cons_succ]); (try simp only [List.getElem_cons_zero]); (try simp only [Act.put]); (try simp only [List.setIfInBounds_toArray]); (try simp only [List.set_cons_succ]); (try simp only [List.set_cons_zero])
      refine wpAnyH_take (i := 3) (v := .int .i64 p) rfl (by kernel_rfl) (by kernel_rfl) (by kernel_rfl) (fun _ _ _ h => h) (Or.inl ⟨by rfl, ?_⟩) hS ?_
      · intro w' hSw
        go_simp
      (try simp only [List.getElem_toArray]); (try simp only [List.getElem_cons_succ]); (try simp only [List.getElem_cons_zero]); (try simp only [Act.put]); (try simp only [List.setIfInBounds_toArray]); (try simp only [List.set_cons_succ]); (try simp only [List.set_cons_zero])
      refine wpAnyH_take (i := 4) (v := .pointer (some ⟨gb, p * 4, none⟩)) rfl (by kernel_rfl) (by kernel_rfl) (by kernel_rfl) (fun _ _ _ h => h) (Or.inl ⟨by rfl, ?_⟩) hS ?_
      · intro w' hSw
        go_simp
      (try simp only [List.getElem_toArray]); (try simp only [List.getElem_cons_succ]); (try simp only [List.getElem_cons_zero]); (try simp only [Act.put]); (try simp only [List.setIfInBounds_toArray]); (try simp only [List.set_cons_succ]); (try simp only [List.set_cons_zero])
      refine wpAnyH_take (i := 5) (v := .agg (cells1 rx)) rfl (by kernel_rfl) (by kernel_rfl) (by kernel_rfl) (fun _ _ _ h => h) (yieldsIf_load_mid (by rfl) _ _ rfl gb (p * 4) rfl (cells1 rx).toList _ (fun _ h => h.2.1) Tryz.underlying83 rfl (by rw [Array.length_toList, cells1_size, HRX.out]; kernel_rfl)) hS ?_
      (try simp only [List.getElem_toArray]); (try simp only [List.getElem_cons_succ]); (try simp only [List.getElem_cons_zero]); (try simp only [Act.put]); (try simp only [List.setIfInBounds_toArray]); (try simp only [List.set_cons_succ]); (try simp only [List.set_cons_zero])
      refine wpAnyH_take (i := 6) (v := .pointer (some ⟨w.heap.size, 2, none⟩)) rfl (by kernel_rfl) (by kernel_rfl) (by kernel_rfl) (fun _ _ _ h => h) (Or.inl ⟨by rfl, ?_⟩) hS ?_
      · intro w' hSw
        go_simp
      (try simp only [List.getElem_toArray]); (try simp only [List.getElem_cons_succ]); (try simp only [List.getElem_cons_zero]); (try simp only [Act.put]); (try simp only [List.setIfInBounds_toArray]); (try simp only [List.set_cons_succ]); (try simp only [List.set_cons_zero])
      refine wpAnyH_take (i := 7) (v := .slice (some ⟨gy, 0, none⟩) n cy) rfl (by kernel_rfl) (by kernel_rfl) (by kernel_rfl) (fun _ _ _ h => h) (Or.inl ⟨by rfl, ?_⟩) hS ?_
      · intro w' hSw
        have h0 := hSw.1 2; go_simp
      (try simp only [List.getElem_toArray]); (try simp only [List.getElem_cons_succ]); (try simp only [List.getElem_cons_zero]); (try simp only [Act.put]); (try simp only [List.setIfInBounds_toArray]); (try simp only [List.set_cons_succ]); (try simp only [List.set_cons_zero])
      refine wpAnyH_take (i := 8) (v := .int .i64 t) rfl (by kernel_rfl) (by kernel_rfl) (by kernel_rfl) (fun _ _ _ h => h) (Or.inl ⟨by rfl, ?_⟩) hS ?_
      · intro w' hSw
        go_simp
      (try simp only [List.getElem_toArray]); (try simp only [List.getElem_cons_succ]); (try simp only [List.getElem_cons_zero]); (try simp only [Act.put]); (try simp only [List.setIfInBounds_toArray]); (try simp only [List.set_cons_succ]); (try simp only [List.set_cons_zero])
      refine wpAnyH_take (i := 9) (v := .int .i64 p) rfl (by kernel_rfl) (by kernel_rfl) (by kernel_rfl) (fun _ _ _ h => h) (Or.inl ⟨by rfl, ?_⟩) hS ?_
      · intro w' hSw
        go_simp
      (try simp only [List.getElem_toArray]); (try simp only [List.getElem_cons_succ]); (try simp only [List.getElem_cons_zero]); (try simp only [Act.put]); (try simp only [List.setIfInBounds_toArray]); (try simp only [List.set_cons_succ]); (try simp only [List.set_cons_zero])
      refine wpAnyH_take (i := 10) (v := .pointer (some ⟨gy, t * 16, none⟩)) rfl (by kernel_rfl) (by kernel_rfl) (by kernel_rfl) (fun _ _ _ h => h) (Or.inl ⟨by rfl, ?_⟩) hS ?_
      · intro w' hSw
        go_simp
      (try simp only [List.getElem_toArray]); (try simp only [List.getElem_cons_succ]); (try simp only [List.getElem_cons_zero]); (try simp only [Act.put]); (try simp only [List.setIfInBounds_toArray]); (try simp only [List.set_cons_succ]); (try simp only [List.set_cons_zero])
      refine wpAnyH_take (i := 11) (v := .pointer (some ⟨gy, t * 16 + p * 4, none⟩)) rfl (by kernel_rfl) (by kernel_rfl) (by kernel_rfl) (fun _ _ _ h => h) (Or.inl ⟨by rfl, ?_⟩) hS ?_
      · intro w' hSw
        go_simp
      (try simp only [List.getElem_toArray]); (try simp only [List.getElem_cons_succ]); (try simp only [List.getElem_cons_zero]); (try simp only [Act.put]); (try simp only [List.setIfInBounds_toArray]); (try simp only [List.set_cons_succ]); (try simp only [List.set_cons_zero])
      refine wpAnyH_take (i := 12) (v := .agg (cells1 ry)) rfl (by kernel_rfl) (by kernel_rfl) (by kernel_rfl) (fun _ _ _ h => h) (yieldsIf_load_mid (by rfl) _ _ rfl gy (t * 16 + p * 4) rfl (cells1 ry).toList _ (fun _ h => h.2.2) Tryz.underlying83 rfl (by rw [Array.length_toList, cells1_size, HRY.out]; kernel_rfl)) hS ?_
      (try simp only [List.getElem_toArray]); (try simp only [List.getElem_cons_succ]); (try simp only [List.getElem_cons_zero]); (try simp only [Act.put]); (try simp only [List.setIfInBounds_toArray]); (try simp only [List.set_cons_succ]); (try simp only [List.set_cons_zero])
      refine wpAnyH_take (i := 13) (v := .int .i64 i) rfl (by kernel_rfl) (by kernel_rfl) (by kernel_rfl) (fun _ _ _ h => h) (Or.inl ⟨by rfl, ?_⟩) hS ?_
      · intro w' hSw
        go_simp
      (try simp only [List.getElem_toArray]); (try simp only [List.getElem_cons_succ]); (try simp only [List.getElem_cons_zero]); (try simp only [Act.put]); (try simp only [List.setIfInBounds_toArray]); (try simp only [List.set_cons_succ]); (try simp only [List.set_cons_zero])
      refine wpAnyH_take (i := 14) (v := .int .i64 j) rfl (by kernel_rfl) (by kernel_rfl) (by kernel_rfl) (fun _ _ _ h => h) (Or.inl ⟨by rfl, ?_⟩) hS ?_
      · intro w' hSw
        go_simp
      (try simp only [List.getElem_toArray]); (try simp only [List.getElem_cons_succ]); (try simp only [List.getElem_cons_zero]); (try simp only [Act.put]); (try simp only [List.setIfInBounds_toArray]); (try simp only [List.set_cons_succ]); (try simp only [List.set_cons_zero])
      refine wpAnyH_ready (rs := [0, 15]) (by kernel_rfl) (by simp) ?_
      refine AllReadyH.cons (o := _) rfl (fun K hK => ?_) (AllReadyH.cons (o := _) rfl (fun K hK => ?_) (AllReadyH.nil))
      · refine step_load_blk rfl 174 _ rfl g rfl E3 Tryz.underlying174 rfl (by kernel_rfl) ?_
        refine hK.out _ _ (HSS.out _ Od) (fun hS => ?_)
        clear hK K
        (try simp only [List.getElem_toArray]); (try simp only [List.getElem_cons_succ]); (try simp only [List.getElem_cons_zero]); (try simp only [Act.put]); (try simp only [List.setIfInBounds_toArray]); (try simp only [List.set_cons_succ]); (try simp only [List.set_cons_zero])
        refine wpAnyH_ready (rs := [15]) (by kernel_rfl) (by simp) ?_
        refine AllReadyH.cons (o := _) rfl (fun K hK => ?_) (AllReadyH.nil)
        rw [if_pos (by rfl)]
        go_simp
        go_at_call 161
        refine (KC _).mono ?_
        rintro e w5 ⟨rfl, hb5⟩
        have E5 := E3.keep hb5
        have O5 : Off [g] w3.drew w5 := Od.trans (Off.ofBelow hb5)
        clear hb5
        dsimp only
        refine hK.out _ _ (HSS.out _ O5) (fun hS => ?_)
        clear hK K
        (try simp only [List.getElem_toArray]); (try simp only [List.getElem_cons_succ]); (try simp only [List.getElem_cons_zero]); (try simp only [Act.put]); (try simp only [List.setIfInBounds_toArray]); (try simp only [List.set_cons_succ]); (try simp only [List.set_cons_zero])
        refine wpAnyH_ready (rs := [16]) (by kernel_rfl) (by simp) ?_
        refine AllReadyH.cons (o := _) rfl (fun K hK => ?_) (AllReadyH.nil)
        rw [if_pos (by rfl)]
        go_simp
        go_at_call 148
        refine (impl_plus q s cv _ q1 q2 s1 s2 c1 c2).mono ?_
        rintro e w6 ⟨rfl, hb6⟩
        have E6 := E5.keep hb6
        have O6 : Off [g] w3.drew w6 := O5.trans (Off.ofBelow hb6)
        clear hb6
        dsimp only
        refine hK.out _ _ (HSS.out _ O6) (fun hS => ?_)
        clear hK K
        (try simp only [List.getElem_toArray]); (try simp only [List.getElem_cons_succ]); (try simp only [List.getElem_cons_zero]); (try simp only [Act.put]); (try simp only [List.setIfInBounds_toArray]); (try simp only [List.set_cons_succ]); (try simp only [List.set_cons_zero])
        refine wpAnyH_ready (rs := [17]) (by kernel_rfl) (by simp) ?_
        refine AllReadyH.cons (o := _) rfl (fun K hK => ?_) (AllReadyH.nil)
        refine step_store_blk rfl 174 _ _ rfl g #[.int .u16 q, .int .u16 ((s + cv) % q)] rfl rfl E6 rfl (by kernel_rfl) (by kernel_rfl) ?_
        intro w7 E7 O7b
        have O7 := O6.trans O7b
        refine hK.out _ _ (HSS.out _ O7) (fun hS => ?_)
        clear hK K
        (try simp only [List.getElem_toArray]); (try simp only [List.getElem_cons_succ]); (try simp only [List.getElem_cons_zero]); (try simp only [Act.put]); (try simp only [List.setIfInBounds_toArray]); (try simp only [List.set_cons_succ]); (try simp only [List.set_cons_zero])
        refine wpAnyH_done (by kernel_rfl) ?_ _
        clear hS
        have R9 : Blk w7 w.heap.size 163 #[.int .i64 q, .slice (some ⟨gx, 0, none⟩) n cx, .slice (some ⟨gy, 0, none⟩) n cy] := (HRR.out _ O7)
        have B9 : Below w.heap.size w w7 := B3.trans (O7.toBelow B3.size (by simp; omega))
        rw [HST.out] at E7
        go_wp2
        go_roundw
        case rel => exact ⟨t + 1, by omega, by go_num, R9, by rw [HS2.out]; exact E7, B9⟩
        case measure => simp [intOf]; omega
      · rw [if_pos (by rfl)]
        go_simp
        go_at_call 161
        refine (KC _).mono ?_
        rintro e w5 ⟨rfl, hb5⟩
        have E5 := E3.keep hb5
        have O5 : Off [g] w3.drew w5 := Od.trans (Off.ofBelow hb5)
        clear hb5
        dsimp only
        refine hK.out _ _ (HSS.out _ O5) (fun hS => ?_)
        clear hK K
        (try simp only [List.getElem_toArray]); (try simp only [List.getElem_cons_succ]); (try simp only [List.getElem_cons_zero]); (try simp only [Act.put]); (try simp only [List.setIfInBounds_toArray]); (try simp only [List.set_cons_succ]); (try simp only [List.set_cons_zero])
        refine wpAnyH_ready (rs := [0]) (by kernel_rfl) (by simp) ?_
        refine AllReadyH.cons (o := _) rfl (fun K hK => ?_) (AllReadyH.nil)
        refine step_load_blk rfl 174 _ rfl g rfl E5 Tryz.underlying174 rfl (by kernel_rfl) ?_
        refine hK.out _ _ (HSS.out _ O5) (fun hS => ?_)
        clear hK K
        (try simp only [List.getElem_toArray]); (try simp only [List.getElem_cons_succ]); (try simp only [List.getElem_cons_zero]); (try simp only [Act.put]); (try simp only [List.setIfInBounds_toArray]); (try simp only [List.set_cons_succ]); (try simp only [List.set_cons_zero])
        refine wpAnyH_ready (rs := [16]) (by kernel_rfl) (by simp) ?_
        refine AllReadyH.cons (o := _) rfl (fun K hK => ?_) (AllReadyH.nil)
        rw [if_pos (by rfl)]
        go_simp
        go_at_call 148
        refine (impl_plus q s cv _ q1 q2 s1 s2 c1 c2).mono ?_
        rintro e w6 ⟨rfl, hb6⟩
        have E6 := E5.keep hb6
        have O6 : Off [g] w3.drew w6 := O5.trans (Off.ofBelow hb6)
        clear hb6
        dsimp only
        refine hK.out _ _ (HSS.out _ O6) (fun hS => ?_)
        clear hK K
        (try simp only [List.getElem_toArray]); (try simp only [List.getElem_cons_succ]); (try simp only [List.getElem_cons_zero]); (try simp only [Act.put]); (try simp only [List.setIfInBounds_toArray]); (try simp only [List.set_cons_succ]); (try simp only [List.set_cons_zero])
        refine wpAnyH_ready (rs := [17]) (by kernel_rfl) (by simp) ?_
        refine AllReadyH.cons (o := _) rfl (fun K hK => ?_) (AllReadyH.nil)
        refine step_store_blk rfl 174 _ _ rfl g #[.int .u16 q, .int .u16 ((s + cv) % q)] rfl rfl E6 rfl (by kernel_rfl) (by kernel_rfl) ?_
        intro w7 E7 O7b
        have O7 := O6.trans O7b
        refine hK.out _ _ (HSS.out _ O7) (fun hS => ?_)
        clear hK K
        (try simp only [List.getElem_toArray]); (try simp only [List.getElem_cons_succ]); (try simp only [List.getElem_cons_zero]); (try simp only [Act.put]); (try simp only [List.setIfInBounds_toArray]); (try simp only [List.set_cons_succ]); (try simp only [List.set_cons_zero])
        refine wpAnyH_done (by kernel_rfl) ?_ _
        clear hS
        have R9 : Blk w7 w.heap.size 163 #[.int .i64 q, .slice (some ⟨gx, 0, none⟩) n cx, .slice (some ⟨gy, 0, none⟩) n cy] := (HRR.out _ O7)
        have B9 : Below w.heap.size w w7 := B3.trans (O7.toBelow B3.size (by simp; omega))
        rw [HST.out] at E7
        go_wp2
        go_roundw
        case rel => exact ⟨t + 1, by omega, by go_num, R9, by rw [HS2.out]; exact E7, B9⟩
        case measure => simp [intOf]; omega
    · obtain rfl : t = n := by omega
      have hs1 : 0 ≤ crN xss yss p i j t % q := Int.emod_nonneg _ (by omega)
      have hs2 : crN xss yss p i j t % q < q := Int.emod_lt_of_pos _ (by omega)
      generalize hcr : crN xss yss p i j t % q = s at *
      have HCR : Hid (crN xss yss p i j t % q = s) := hcr
      clear hcr
      have fd := field_1
      go_wp2_with (refine wpList_load_blk rfl 174 _ rfl g rfl E Tryz.underlying174 rfl (by kernel_rfl) ?_)
      refine (impl_result q s _ hs1 (by omega)).mono ?_
      rintro e w9 ⟨rfl, hb9⟩
      go_wp2
      go_ret
      exact ⟨by rw [HCR.out]; rfl, B.trans (hb9.mono B.size)⟩
end Go.Proofs.YtepobckhfodngaoGreat
