/-
  Contracts of BitsOf and FromBits, of the program and of its model.
-/
import Derived.Test.YtadppilldijijaaElem
import Derived.Test.YtadppilldijijaaEq
namespace Go.Proofs.Ytadppilldijijaa
open Go.ChangeShapes Go.WideShapes Go.ChangeAt Go.RowKit
set_option linter.unusedVariables false

/-- n bits of v, the lowest first -/
def bitsN (v : Int) : Nat → List Int
  | 0 => []
  | n + 1 => v % 2 :: bitsN (v / 2) n
theorem bitsN_length (v : Int) (n : Nat) : (bitsN v n).length = n := by
  induction n generalizing v with
  | zero => rfl
  | succ n ih => simp [bitsN, ih]
/-- what is left of v behind n bits -/
def halfN (v : Int) : Nat → Int
  | 0 => v
  | n + 1 => halfN v n / 2
theorem halfN_half (v : Int) (n : Nat) : halfN (v / 2) n = halfN v n / 2 := by
  induction n with
  | zero => rfl
  | succ n ih => show halfN (v / 2) n / 2 = _; rw [ih]; rfl
theorem bitsN_snoc (v : Int) (n : Nat) : bitsN v (n + 1) = bitsN v n ++ [halfN v n % 2] := by
  induction n generalizing v with
  | zero => rfl
  | succ n ih => rw [bitsN, ih, halfN_half]; rfl
theorem halfN_range (v : Int) (n : Nat) (h : 0 ≤ v) (h' : v ≤ 255) : 0 ≤ halfN v n ∧ halfN v n ≤ 255 := by
  induction n with
  | zero => exact ⟨h, h'⟩
  | succ n ih => show 0 ≤ halfN v n / 2 ∧ halfN v n / 2 ≤ 255; omega

set_option maxHeartbeats 400000 in
set_option maxRecDepth 100000 in
theorem spec_l1Bits (v : Int) (w : World) (h : 0 ≤ v) (h' : v ≤ 255) : Calls Try.prog 74 #[.int .i64 v] w fun e w' => ∃ lv bs, e = .returned lv ∧ IntsT w' lv (bitsN v 8) bs ∧ (∀ g ∈ bs, w.heap.size ≤ g) ∧ Below w.heap.size w w' := by
  obtain ⟨i0, hi, hz0, hz1, hz2⟩ := info_parts Try.infoI
  go_enter Try.func74, Try.ntmps74
  go_wp2
  go_loopw [0, 3, 4] (fun x o i wr => ∃ k : Nat, k ≤ 8 ∧ i = .int .i64 k ∧ x = .int .i64 (halfN v k) ∧ wr.ownsRow w.heap.size 2 1 o k ((bitsN v k).map (Value.int .i64)) ∧ Below w.heap.size w wr) (fun _ _ i _ => 8 - (intOf i).toNat)
  case atStart =>
    exact ⟨0, Nat.zero_le _, rfl, rfl, by simpa [bitsN] using World.ownsRow_lit (base := w.heap.size) (e := 2) (size := 1) w #[] 0 (Nat.le_refl _) (Nat.zero_le _) rfl, (by repeat (first | exact Below.refl _ _ | refine Below.drew ?_ | refine below_drewN ?_ _ | refine Below.setCell ?_ (by first | omega | (simp; done) | (simp; omega)) _ | refine Below.alloc ?_ (by first | omega | (simp; done) | (simp; omega)) _))⟩
  case round =>
    obtain ⟨k, hk, rfl, rfl, hown, hbel⟩ := hrel
    by_cases hlt : k < 8
    · obtain ⟨r1, r2⟩ := halfN_range v k h h'
      have hsn : Hid (bitsN v (k + 1) = bitsN v k ++ [halfN v k % 2]) := bitsN_snoc v k
      have hhn : Hid (halfN v (k + 1) = halfN v k / 2) := rfl
      have hsz := hbel.size
      generalize halfN v k = y at *
      go_wp2_with (at_builtin; refine wpList_append_own _ rfl _ _ 33 rfl w.heap.size 2 i0 (.int .i64 0) 1 8 Try.underlying33 hi hz0 hz1 hz2 rfl (by decide) _ _ _ rfl (hown.alloc _) ⟨wr.heap.size, 0, none⟩ 1 1 [.int .i64 (y % 2)] rfl rfl ?c1 ?c2 ?c3 ?c4 ?c5 ?_)
      case c1 => exact cell_one_new _ _ _
      case c2 => intro u hu; simp at hu; subst hu; rfl
      case c3 => unfold maxLen; omega
      case c4 => omega
      case c5 => simp; omega
      intro v' w1 hown' hgrow _
      have hb' : Below w.heap.size w w1 := (hbel.alloc hsz _).grown hgrow (by simp; omega) (fun k e => (hown.lt k e).1)
      have ho : w1.ownsRow w.heap.size 2 1 v' (k + 1) ((bitsN v (k + 1)).map (Value.int .i64)) := by rw [hsn.out]; simpa using hown'
      clear hown' hgrow hown hbel hsz
      go_wp2
      go_roundw
      case rel => exact ⟨k + 1, by omega, by go_num, by rw [hhn.out], ho, hb'⟩
      case measure => simp [intOf]; omega
    · obtain rfl : k = 8 := by omega
      go_wp2
      go_ret
      obtain ⟨bs, h1, h2⟩ := Own.of_owns hown
      exact ⟨_, bs, rfl, h1, h2, hbel⟩
theorem spec_BitsOf_yes (v : Int) (w : World) (h : 0 ≤ v) (h' : v ≤ 255) : Calls Try.prog 27 #[.int .i64 v] w fun e w' => ∃ lv bs, e = .returned (.agg #[.int .i64 0, lv]) ∧ IntsT w' lv (bitsN v 8) bs ∧ (∀ g ∈ bs, w.heap.size ≤ g) ∧ Below w.heap.size w w' := by
  go_enter Try.func27, Try.ntmps27
  go_wp2_with fail
  refine (spec_l1Has_yes _ _ _ (by omega) (by omega) h (by omega)).mono ?_
  rintro e w' ⟨rfl, rfl⟩
  go_wp2_with fail
  refine (spec_l1Bits _ _ h h').mono ?_
  rintro e w1 ⟨lv, bs, rfl, hi, hg, hb⟩
  obtain ⟨hc, hf⟩ := bat hb w.heap.size (by simp)
  obtain ⟨a, cap, rfl⟩ := Own.value hi
  go_wp2
  refine bodyPost_ret (v := .agg #[.int .i64 0, .slice a (bitsN v 8).length cap]) (by simp [results, Try.results27, go_sem, hc]) rfl ⟨_, bs, rfl, ?_, fun g k => Nat.le_of_succ_le (by simpa using hg g k), (by have zz0 := (hb).size; (try simp at zz0); repeat (first | exact Below.refl _ _ | refine Below.drew ?_ | refine below_drewN ?_ _ | refine Below.setCell ?_ (by first | omega | (simp; done) | (simp; omega)) _ | refine Below.alloc ?_ (by first | omega | (simp; done) | (simp; omega)) _ | refine bcall ?_ hb (by first | omega | (simp; done) | (simp; omega))))⟩
  have hne : w.heap.size ∉ bs := fun k => by have := hg _ k; simp at this; omega
  exact (Own.setOther (Own.setOther hi _ _ hne) _ _ hne)
theorem spec_BitsOf_no (v : Int) (w : World) (h : v < 0 ∨ 255 < v) : Calls Try.prog 27 #[.int .i64 v] w fun e w' => e = .returned (.agg #[.int .i64 3, .slice none 0 0]) ∧ Below w.heap.size w w' := by
  go_enter Try.func27, Try.ntmps27
  go_wp2_with fail
  refine (spec_l1Has_no _ _ _ (by omega) (by omega) (by omega)).mono ?_
  rintro e w' ⟨rfl, rfl⟩
  go_wp2
  exact bodyPost_ret (v := .agg #[.int .i64 3, .slice none 0 0]) (by simp [results, Try.results27, go_sem]) rfl ⟨rfl, (by repeat (first | exact Below.refl _ _ | refine Below.drew ?_ | refine below_drewN ?_ _ | refine Below.setCell ?_ (by first | omega | (simp; done) | (simp; omega)) _ | refine Below.alloc ?_ (by first | omega | (simp; done) | (simp; omega)) _))⟩

theorem halfN_pow (v : Int) (n : Nat) (h : 0 ≤ v) : halfN v n = v / 2 ^ n := by
  induction n with
  | zero => simp [halfN]
  | succ n ih => show halfN v n / 2 = _; rw [ih, Int.ediv_ediv_of_nonneg (Int.pow_nonneg (by omega)), Int.pow_succ]
theorem and_one_u16 (E : Int) (h0 : 0 ≤ E) (h1 : E ≤ 255) : bits BinOp.and IntKind.u16 E 1 = E % 2 := by
  have h : ∀ n : Fin 256, bits BinOp.and IntKind.u16 ((n.val : Nat) : Int) 1 = ((n.val : Nat) : Int) % 2 := by decide +kernel
  have := h ⟨E.toNat, by omega⟩
  simp only [Int.toNat_of_nonneg h0] at this
  exact this
theorem impl_bit (q x : Int) (i : Nat) (w : World) (hx : 0 ≤ x) (hx' : x ≤ 255) (hi : i ≤ 7) : Calls Try.prog 77 #[.agg #[.int .u16 q, .int .u16 x], .int .i64 i] w fun e w' => e = .returned (.int .i64 (halfN x i % 2)) ∧ Below w.heap.size w w' := by
  obtain ⟨r1, r2⟩ := halfN_range x i hx hx'
  rw [halfN_pow x i hx] at *
  have e1 : wrap64 (bits BinOp.and IntKind.u16 (x / 2 ^ i) 1) = x / 2 ^ i % 2 := by rw [and_one_u16 _ r1 r2]; exact IntWalk.wrap64_in _ ⟨by omega, by omega⟩
  clear r1 r2
  go_enter Try.func77, Try.ntmps77
  go_wp2
  go_ret
  refine ⟨?_, (by repeat (first | exact Below.refl _ _ | refine Below.drew ?_ | refine below_drewN ?_ _ | refine Below.setCell ?_ (by first | omega | (simp; done) | (simp; omega)) _ | refine Below.alloc ?_ (by first | omega | (simp; done) | (simp; omega)) _))⟩
  show Ending.returned (.int .i64 (wrap64 (bits BinOp.and IntKind.u16 (x / 2 ^ i) 1))) = _
  rw [e1]
theorem impl_BitsOf_no (v : Int) (w : World) (h : v < 0 ∨ 255 < v) : Calls Try.prog 25 #[.int .i64 v] w fun e w' => e = .returned (.agg #[.int .i64 3, .slice none 0 0]) ∧ Below w.heap.size w w' := by
  go_enter Try.func25, Try.ntmps25
  go_wp2_with fail
  refine (impl_isElement_no _ _ _ (by omega)).mono ?_
  rintro e w' ⟨rfl, rfl⟩
  go_wp2
  exact bodyPost_ret (v := .agg #[.int .i64 3, .slice none 0 0]) (by simp [results, Try.results25, go_sem]) rfl ⟨rfl, (by repeat (first | exact Below.refl _ _ | refine Below.drew ?_ | refine below_drewN ?_ _ | refine Below.setCell ?_ (by first | omega | (simp; done) | (simp; omega)) _ | refine Below.alloc ?_ (by first | omega | (simp; done) | (simp; omega)) _))⟩
set_option maxHeartbeats 800000 in
theorem impl_BitsOf_yes (v : Int) (w : World) (h : 0 ≤ v) (h' : v ≤ 255) : Calls Try.prog 25 #[.int .i64 v] w fun e w' => ∃ lv bs, e = .returned (.agg #[.int .i64 0, lv]) ∧ IntsT w' lv (bitsN v 8) bs ∧ (∀ g ∈ bs, w.heap.size ≤ g) ∧ Below w.heap.size w w' := by
  have hmk : ∀ w, (Instr.makeSlice 33 (.int .i64 8) (.int .i64 8)).run Try.prog w = .ok (.slice (some ⟨w.heap.size, 0, none⟩) 8 8) (w.alloc (.cells #[.int .i64 0, .int .i64 0, .int .i64 0, .int .i64 0, .int .i64 0, .int .i64 0, .int .i64 0, .int .i64 0] 2)) := fun _ => by kernel_rfl
  go_enter Try.func25, Try.ntmps25
  go_wp2_with fail
  refine (impl_isElement_yes _ _ _ h (by omega)).mono ?_
  rintro e w' ⟨rfl, rfl⟩
  go_wp2_with fail
  refine (impl_elementOf _ _ _ (by omega) (by omega) (by omega) (by omega)).mono ?_
  rintro e w1 ⟨rfl, hb1⟩
  go_wp2_with fail
  have hz1 : w.heap.size < w1.heap.size := by have := hb1.size; simp at this; omega
  obtain ⟨W0, hW0⟩ : ∃ W0, W0 = (w1.alloc (Obj.cells #[Value.int IntKind.u16 256, Value.int IntKind.u16 v] 75)).alloc (.cells #[.int .i64 0, .int .i64 0, .int .i64 0, .int .i64 0, .int .i64 0, .int .i64 0, .int .i64 0, .int .i64 0] 2) := ⟨_, rfl⟩
  have hbW : Below (w.heap.size + 1) (w.alloc (.cells #[.int .i64 0, .slice none 0 0] 38)) W0 := by rw [hW0]; exact (by have zz0 := (hb1).size; (try simp at zz0); repeat (first | exact Below.refl _ _ | refine Below.drew ?_ | refine below_drewN ?_ _ | refine Below.setCell ?_ (by first | omega | (simp; done) | (simp; omega)) _ | refine Below.alloc ?_ (by first | omega | (simp; done) | (simp; omega)) _ | refine bcall ?_ hb1 (by first | omega | (simp; done) | (simp; omega))))
  have hsz : W0.heap.size = w1.heap.size + 2 := by rw [hW0]; simp
  have cE : (W0.cell? ⟨w1.heap.size, 0, none⟩ = some (.int .u16 256)) ∧ (W0.cell? ⟨w1.heap.size, 1, none⟩ = some (.int .u16 v)) := by rw [hW0]; constructor <;> simp [go_sem]
  have cR := bat hbW w.heap.size (by omega)
  have hown0 : Own W0 2 1 (.slice (some ⟨w1.heap.size + 1, 0, none⟩) 8 8) 8 (List.replicate 8 (.int .i64 0)) [w1.heap.size + 1] := by
    rw [hW0]
    have := Own.made (w1.alloc (Obj.cells #[Value.int IntKind.u16 256, Value.int IntKind.u16 v] 75)) 2 1 #[.int .i64 0, .int .i64 0, .int .i64 0, .int .i64 0, .int .i64 0, .int .i64 0, .int .i64 0, .int .i64 0] 8 (by unfold maxLen; omega) rfl
    simpa using this
  rw [← hW0]
  clear hW0 hb1 hmk
  go_loopw [15] (fun i wr => ∃ k : Nat, k ≤ 8 ∧ i = .int .i64 k ∧ Own wr 2 1 (.slice (some ⟨w1.heap.size + 1, 0, none⟩) 8 8) 8 ((bitsN v k ++ List.replicate (8 - k) 0).map (Value.int .i64)) [w1.heap.size + 1] ∧ Off [w1.heap.size + 1] W0 wr) (fun i _ => 8 - (intOf i).toNat)
  case atStart => exact ⟨0, Nat.zero_le _, rfl, by simpa [bitsN] using hown0, Off.refl _ _⟩
  case round =>
    clear hown0
    obtain ⟨k, hk, rfl, hown, hoff⟩ := hrel
    by_cases hlt : k < 8
    · have d := (hoff.at w1.heap.size (by omega) (by simp)).1
      have d0 := (d 0).trans cE.1
      have d1 := (d 1).trans cE.2
      clear d cE cR
      go_wp2_with fail
      refine (impl_bit _ _ _ _ h h' (by omega)).mono ?_
      rintro e w2 ⟨rfl, hb2⟩
      have hown2 := Own.keep hown hb2
      have hoff2 := hoff.trans (Off.ofBelow hb2)
      have c1 : ∃ u, w2.cell? ⟨w1.heap.size + 1, k, none⟩ = some u := ⟨_, (Own.cell hown2 k (by omega)).trans (List.getElem?_eq_getElem (by simp [bitsN_length]; omega))⟩
      obtain ⟨u, c1⟩ := c1
      have f1 : w2.frozen? ⟨w1.heap.size + 1, k, none⟩ = false := Own.frozen hown2 k
      have hi : (k : Int) < 8 := by omega
      have hset := Own.set hown2 k (.int .i64 (halfN v k % 2))
      have hse : ((bitsN v k ++ List.replicate (8 - k) 0).map (Value.int .i64)).set k (.int .i64 (halfN v k % 2)) = (bitsN v (k + 1) ++ List.replicate (8 - (k + 1)) 0).map (Value.int .i64) := by
        rw [← List.map_set, bitsN_snoc, List.set_append_right _ _ (by rw [bitsN_length]; omega), bitsN_length, show 8 - k = (8 - (k + 1)) + 1 by omega]
        simp [List.replicate_succ]
      rw [hse] at hset
      clear hse hown hoff hown2 hb2 d0 d1
      go_wp2
      go_roundw
      case rel => exact ⟨k + 1, by omega, by go_num, hset, hoff2.setCell _ _ (.inl (by simp))⟩
      case measure => simp [intOf]; omega
    · obtain rfl : k = 8 := by omega
      have d := hoff.at w.heap.size (by omega) (by simp; omega)
      have d1 := fun o => (d.1 o).trans (cR.1 o)
      have d2 := fun o => (d.2 o).trans (cR.2 o)
      clear d cR cE
      have hne : w.heap.size ∉ [w1.heap.size + 1] := by simp; omega
      have hfin : Own wr 2 1 (.slice (some ⟨w1.heap.size + 1, 0, none⟩) 8 8) 8 ((bitsN v 8).map (Value.int .i64)) [w1.heap.size + 1] := by simpa using hown
      have hbel : Below w.heap.size w wr := ((Below.refl w.heap.size w).alloc (Nat.le_refl _) _).trans ((hbW.mono (by omega)).trans (hoff.toBelow (by omega) (by simp; omega)))
      clear hown
      go_wp2
      refine bodyPost_ret (v := .agg #[.int .i64 0, .slice (some ⟨w1.heap.size + 1, 0, none⟩) 8 8]) (by simp [results, Try.results25, go_sem, d1]) rfl ⟨_, [w1.heap.size + 1], rfl, ?_, by simp; omega, (hbel.setCell (by simp) _).setCell (by simp) _⟩
      exact (Own.setOther (Own.setOther hfin _ _ hne) _ _ hne)

/-- the bits of an element; none where it is none -/
def bitsL (v : Int) : List Int := if 0 ≤ v ∧ v ≤ 255 then bitsN v 8 else []
theorem spec_BitsOf (v : Int) (w : World) : Calls Try.prog 27 #[.int .i64 v] w fun e w' => ∃ lv bs, e = .returned (.agg #[.int .i64 (sgC v), lv]) ∧ IntsT w' lv (bitsL v) bs ∧ (∀ g ∈ bs, w.heap.size ≤ g) ∧ Below w.heap.size w w' := by
  by_cases h : 0 ≤ v ∧ v ≤ 255
  · have e1 : sgC v = 0 := by unfold sgC; rw [if_pos h]
    have e2 : bitsL v = bitsN v 8 := by unfold bitsL; rw [if_pos h]
    rw [e1, e2]
    exact spec_BitsOf_yes v w h.1 h.2
  · have e1 : sgC v = 3 := by unfold sgC; rw [if_neg h]
    have e2 : bitsL v = [] := by unfold bitsL; rw [if_neg h]
    rw [e1, e2]
    refine (spec_BitsOf_no v w (by omega)).mono ?_
    rintro e w' ⟨rfl, hb⟩
    exact ⟨_, [], rfl, ⟨rfl, .inl ⟨rfl, rfl, rfl⟩⟩, (fun g hg => by cases hg), hb⟩
theorem impl_BitsOf (v : Int) (w : World) : Calls Try.prog 25 #[.int .i64 v] w fun e w' => ∃ lv bs, e = .returned (.agg #[.int .i64 (sgC v), lv]) ∧ IntsT w' lv (bitsL v) bs ∧ (∀ g ∈ bs, w.heap.size ≤ g) ∧ Below w.heap.size w w' := by
  by_cases h : 0 ≤ v ∧ v ≤ 255
  · have e1 : sgC v = 0 := by unfold sgC; rw [if_pos h]
    have e2 : bitsL v = bitsN v 8 := by unfold bitsL; rw [if_pos h]
    rw [e1, e2]
    exact impl_BitsOf_yes v w h.1 h.2
  · have e1 : sgC v = 3 := by unfold sgC; rw [if_neg h]
    have e2 : bitsL v = [] := by unfold bitsL; rw [if_neg h]
    rw [e1, e2]
    refine (impl_BitsOf_no v w (by omega)).mono ?_
    rintro e w' ⟨rfl, hb⟩
    exact ⟨_, [], rfl, ⟨rfl, .inl ⟨rfl, rfl, rfl⟩⟩, (fun g hg => by cases hg), hb⟩
theorem bitsL_length (v : Int) : (bitsL v).length ≤ 8 := by unfold bitsL; split <;> simp [bitsN_length]
end Go.Proofs.Ytadppilldijijaa
