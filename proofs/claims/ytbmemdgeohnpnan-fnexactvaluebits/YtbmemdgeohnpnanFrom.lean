/-
  Contracts of FromBits, of the program and of its model.
-/
import Derived.Test.YtbmemdgeohnpnanBits
import Derived.Test.YtbmemdgeohnpnanEl
import Derived.Deep.RegionWith
namespace Go.Proofs.Ytbmemdgeohnpnan
open Go.ChangeShapes Go.WideShapes Go.ChangeAt Go.RowKit
set_option linter.unusedVariables false

def bitsVal : List Int → Int
  | [] => 0
  | x :: r => x + 2 * bitsVal r
def okBits (xs : List Int) : Prop := ∀ j, j < xs.length → 0 ≤ xs.getD j 0 ∧ xs.getD j 0 ≤ 1
/-- the code and the value of FromBits -/
def fromB (xs : List Int) : Int × Int := if xs.length = 8 then (if xs.all (fun x => decide (0 ≤ x ∧ x ≤ 1)) = true then (0, bitsVal xs) else (3, 0)) else (2, 0)
theorem okBits_all (xs : List Int) : xs.all (fun x => decide (0 ≤ x ∧ x ≤ 1)) = true ↔ okBits xs := by
  rw [List.all_eq_true]
  constructor
  · intro h j hj
    have := h xs[j] (List.getElem_mem hj)
    simp only [decide_eq_true_eq] at this
    simpa [hj] using this
  · intro h x hx
    obtain ⟨j, hj, rfl⟩ := List.getElem_of_mem hx
    have := h j hj
    simpa [hj] using this
theorem fromB_many (xs : List Int) (h : xs.length ≠ 8) : fromB xs = (2, 0) := by unfold fromB; rw [if_neg h]
theorem fromB_bad (xs : List Int) (h : xs.length = 8) (k : ¬ okBits xs) : fromB xs = (3, 0) := by unfold fromB; rw [if_pos h, if_neg (fun e => k ((okBits_all xs).1 e))]
theorem fromB_ok (xs : List Int) (h : xs.length = 8) (k : okBits xs) : fromB xs = (0, bitsVal xs) := by unfold fromB; rw [if_pos h, if_pos ((okBits_all xs).2 k)]
theorem drop_cons (xs : List Int) (k : Nat) (h : k < xs.length) : xs.drop k = xs.getD k 0 :: xs.drop (k + 1) := by
  rw [List.drop_eq_getElem_cons h]
  simp [h]
theorem bitsVal_drop (xs : List Int) (k : Nat) (h : k < xs.length) : bitsVal (xs.drop k) = xs.getD k 0 + 2 * bitsVal (xs.drop (k + 1)) := by
  rw [drop_cons xs k h]; rfl
theorem bitsVal_range (xs : List Int) (hl : xs.length = 8) (h : okBits xs) (k : Nat) (hk : k ≤ 8) : 0 ≤ bitsVal (xs.drop k) ∧ bitsVal (xs.drop k) * 2 ^ k ≤ 256 - 2 ^ k := by
  have : ∀ m, m ≤ 8 → 0 ≤ bitsVal (xs.drop (8 - m)) ∧ bitsVal (xs.drop (8 - m)) * 2 ^ (8 - m) ≤ 256 - 2 ^ (8 - m) := by
    intro m
    induction m with
    | zero => intro _; rw [List.drop_eq_nil_of_le (by omega)]; simp [bitsVal]
    | succ m ih =>
      intro hm
      obtain ⟨h1, h2⟩ := ih (by omega)
      have hb := h (8 - (m + 1)) (by omega)
      have e := bitsVal_drop xs (8 - (m + 1)) (by omega)
      rw [show 8 - (m + 1) + 1 = 8 - m by omega] at e
      rw [e]
      generalize bitsVal (xs.drop (8 - m)) = y at *
      generalize xs.getD (8 - (m + 1)) 0 = x at *
      rw [show 8 - m = (8 - (m + 1)) + 1 by omega, Int.pow_succ] at h2
      have hp : (0 : Int) < 2 ^ (8 - (m + 1)) := Int.pow_pos (by omega)
      generalize (2 : Int) ^ (8 - (m + 1)) = p at *
      refine ⟨by omega, ?_⟩
      have : x * p ≤ 1 * p := Int.mul_le_mul_of_nonneg_right hb.2 (by omega)
      rw [Int.add_mul]
      have e2 : 2 * y * p = y * (p * 2) := by rw [Int.mul_comm 2 y, Int.mul_assoc, Int.mul_comm 2 p]
      omega
  have := this (8 - k) (by omega)
  rwa [show 8 - (8 - k) = k by omega] at this
theorem bitsVal_le (xs : List Int) (hl : xs.length = 8) (h : okBits xs) (k : Nat) (hk : k ≤ 8) : 0 ≤ bitsVal (xs.drop k) ∧ bitsVal (xs.drop k) ≤ 255 := by
  obtain ⟨h1, h2⟩ := bitsVal_range xs hl h k hk
  have hp : (1 : Int) ≤ 2 ^ k := by have : (0 : Int) < 2 ^ k := Int.pow_pos (by omega); omega
  refine ⟨h1, ?_⟩
  have : bitsVal (xs.drop k) * 1 ≤ bitsVal (xs.drop k) * 2 ^ k := Int.mul_le_mul_of_nonneg_left hp h1
  omega
set_option maxHeartbeats 1000000 in
theorem spec_FromBits (v : Value) (xs : List Int) (w : World) (hv : Reads w .i64 v xs) : Calls Try.prog 35 #[v] w fun e w' => e = .returned (.agg #[.int .i64 (fromB xs).1, .int .i64 (fromB xs).2]) ∧ Below w.heap.size w w' := by
  obtain ⟨ad, cap, rfl, hm, hA⟩ := hv
  by_cases hl : xs.length = 8
  · obtain ⟨g, o, rfl, hlt0, hc⟩ := hA (by intro h; rw [h] at hl; simp at hl)
    clear hA hm
    have HL : Hid (xs.length = 8) := hl
    rw [hl] at hc ⊢
    clear hl
    have hne : g ≠ w.heap.size := by omega
    go_enter Try.func35, Try.ntmps35
    go_wp2_with fail
    go_loop [4] (fun i => ∃ k : Nat, k ≤ 8 ∧ i = .int .i64 k ∧ ∀ j, j < k → 0 ≤ xs.getD j 0 ∧ xs.getD j 0 ≤ 1) (fun i => 8 - (intOf i).toNat)
    case atStart => exact ⟨0, Nat.zero_le _, rfl, fun j hj => by omega⟩
    case round =>
      obtain ⟨k, hk, rfl, hg⟩ := hrel
      by_cases hlt : k < 8
      · have c0 : w.cell? ⟨g, o + k, none⟩ = some (.int .i64 (xs.getD k 0)) := hc k hlt
        have hi : (k : Int) < 8 := by omega
        by_cases hgood : 0 ≤ xs.getD k 0 ∧ xs.getD k 0 ≤ 1
        · clear hc
          have HG : Hid (∀ j, j < k + 1 → 0 ≤ xs.getD j 0 ∧ xs.getD j 0 ≤ 1) := fun j hj => by
            rcases Nat.lt_or_ge j k with h | h
            · exact hg j h
            · rw [show j = k by omega]; exact hgood
          clear hg
          generalize xs.getD k 0 = y at *
          go_wp2_with fail
          refine (spec_l1In_yes _ _ _ _ hgood.1 hgood.2).mono ?_
          rintro e w' ⟨rfl, rfl⟩
          go_wp2
          go_round
          case rel => exact ⟨k + 1, by omega, by go_num, HG.out⟩
          case measure => simp [intOf]; omega
        · have hbad : fromB xs = (3, 0) := fromB_bad xs HL.out (fun h => hgood (h k (by rw [HL.out]; exact hlt)))
          have HB : Hid (fromB xs = (3, 0)) := hbad
          clear hc hg hbad
          generalize xs.getD k 0 = y at *
          go_wp2_with fail
          refine (spec_l1In_no _ _ _ _ (by omega)).mono ?_
          rintro e w' ⟨rfl, rfl⟩
          go_wp2
          refine bodyPost_ret (v := .agg #[.int .i64 3, .int .i64 0]) (by simp [results, Try.results35, go_sem]) rfl ⟨by rw [HB.out], (by repeat (first | exact Below.refl _ _ | refine Below.drew ?_ | refine below_drewN ?_ _ | refine Below.setCell ?_ (by first | omega | (simp; done) | (simp; omega)) _ | refine Below.alloc ?_ (by first | omega | (simp; done) | (simp; omega)) _))⟩
      · obtain rfl : k = 8 := by omega
        have HO : Hid (okBits xs) := fun j hj => hg j (by rw [HL.out] at hj; exact hj)
        clear hg
        go_wp2_with fail
        go_loop [3, 5] (fun s i => ∃ k : Nat, k ≤ 8 ∧ i = .int .i64 ((k : Int) - 1) ∧ s = .int .i64 (bitsVal (xs.drop k))) (fun _ i => (intOf i + 1).toNat)
        case atStart => exact ⟨8, Nat.le_refl _, rfl, by rw [List.drop_eq_nil_of_le (by rw [HL.out]; omega)]; rfl⟩
        case round =>
          obtain ⟨k, hk, rfl, rfl⟩ := hrel
          by_cases hlt : 0 < k
          · obtain ⟨m, rfl⟩ : ∃ m, k = m + 1 := ⟨k - 1, by omega⟩
            have hcm : (((m + 1 : Nat) : Int) - 1) = (m : Int) := by omega
            rw [hcm]
            have c0 : w.cell? ⟨g, o + m, none⟩ = some (.int .i64 (xs.getD m 0)) := hc m (by omega)
            have hb := bitsVal_le xs HL.out HO.out (m + 1) (by omega)
            have hx := HO.out m (by rw [HL.out]; omega)
            have HE : Hid (bitsVal (xs.drop m) = xs.getD m 0 + 2 * bitsVal (xs.drop (m + 1))) := bitsVal_drop xs m (by rw [HL.out]; omega)
            clear hc hcm
            generalize bitsVal (xs.drop (m + 1)) = y at *
            generalize xs.getD m 0 = x at *
            go_wp2
            go_round
            case rel => exact ⟨m, by omega, by go_num, by rw [HE.out]; go_num⟩
            case measure => simp [intOf]
          · obtain rfl : k = 0 := by omega
            have HF : Hid (fromB xs = (0, bitsVal (xs.drop 0))) := fromB_ok xs HL.out HO.out
            clear hc
            generalize bitsVal (xs.drop 0) = y at *
            go_wp2
            refine bodyPost_ret (v := .agg #[.int .i64 0, .int .i64 y]) (by simp [results, Try.results35, go_sem]) rfl ⟨by rw [HF.out], (by repeat (first | exact Below.refl _ _ | refine Below.drew ?_ | refine below_drewN ?_ _ | refine Below.setCell ?_ (by first | omega | (simp; done) | (simp; omega)) _ | refine Below.alloc ?_ (by first | omega | (simp; done) | (simp; omega)) _))⟩
  · rw [fromB_many xs hl]
    have hne : ((xs.length : Int) == 8) = false := by simp; omega
    go_enter Try.func35, Try.ntmps35
    go_wp2
    exact bodyPost_ret (v := .agg #[.int .i64 2, .int .i64 0]) (by simp [results, Try.results35, go_sem]) rfl ⟨rfl, (by repeat (first | exact Below.refl _ _ | refine Below.drew ?_ | refine below_drewN ?_ _ | refine Below.setCell ?_ (by first | omega | (simp; done) | (simp; omega)) _ | refine Below.alloc ?_ (by first | omega | (simp; done) | (simp; omega)) _))⟩
set_option maxHeartbeats 16000000 in
theorem impl_FromBits (v : Value) (xs : List Int) (w : World) (hv : Reads w .i64 v xs) : Calls Try.prog 37 #[v] w fun e w' => e = .returned (.agg #[.int .i64 (fromB xs).1, .int .i64 (fromB xs).2]) ∧ Below w.heap.size w w' := by
  have HV0 := hv
  obtain ⟨ad, cap, rfl, hm, hA⟩ := hv
  by_cases hl : xs.length = 8
  · obtain ⟨g, o, rfl, hlt0, hc⟩ := hA (by intro h; rw [h] at hl; simp at hl)
    clear hA hm
    have HL : Hid (xs.length = 8) := hl
    have HV : Hid (Reads w .i64 (.slice (some ⟨g, o, none⟩) 8 cap) xs) := by rw [← hl]; exact HV0
    rw [hl] at hc ⊢
    clear HV0
    clear hl
    have hne : g ≠ w.heap.size := by omega
    have KE := fun W h => impl_elementsFault 2 (.slice (some ⟨g, o, none⟩) 8 cap) xs W h
    by_cases hgood : okE 2 xs = true
    · rw [show elC 2 xs = 0 from if_pos hgood] at KE
      have HO : Hid (okBits xs) := fun j hj => by have := (okE_iff 2 xs).1 hgood j hj; omega
      clear hgood
      go_enter Try.func37, Try.ntmps37
      go_wp2_with fail
      refine (KE _ (HV.out.below (by first | exact Below.refl _ _ | exact (by repeat (first | exact Below.refl _ _ | refine Below.drew ?_ | refine below_drewN ?_ _ | refine Below.setCell ?_ (by first | omega | (simp; done) | (simp; omega)) _ | refine Below.alloc ?_ (by first | omega | (simp; done) | (simp; omega)) _))))).mono ?_
      rintro e w' ⟨rfl, rfl⟩
      clear KE
      go_wp2_with fail
      refine (impl_elementOf _ _ _ (by omega) (by omega) (by omega) (by omega)).mono ?_
      rintro e w1 ⟨rfl, hb1⟩
      have R1 := (Blk.new w 40 #[.int .i64 0, .int .i64 0]).keep hb1
      have z1 : w.heap.size < w1.heap.size := by have := hb1.size; simp at this; omega
      go_wp2_with fail
      have S1 := Blk.new w1 80 #[.int .u16 256, .int .u16 0]
      have R2 := R1.alloc (.cells #[.int .u16 256, .int .u16 0] 80)
      have q1 : Below w.heap.size w (w1.alloc (.cells #[.int .u16 256, .int .u16 0] 80)) := (by have zz0 := (hb1).size; (try simp at zz0); repeat (first | exact Below.refl _ _ | refine Below.drew ?_ | refine below_drewN ?_ _ | refine Below.setCell ?_ (by first | omega | (simp; done) | (simp; omega)) _ | refine Below.alloc ?_ (by first | omega | (simp; done) | (simp; omega)) _ | refine bcall ?_ hb1 (by first | omega | (simp; done) | (simp; omega))))
      generalize w1.alloc (.cells #[.int .u16 256, .int .u16 0] 80) = W0 at *
      generalize w1.heap.size = S at *
      clear R1 hb1
      have hSg : ¬ S = g := by omega
      go_loopw [5] (fun i wr => ∃ k : Nat, k ≤ 8 ∧ i = .int .i64 ((k : Int) - 1) ∧ Blk wr S 80 #[.int .u16 256, .int .u16 (bitsVal (xs.drop k))] ∧ Off [S] W0 wr) (fun i _ => (intOf i + 1).toNat)
      case atStart => exact ⟨8, Nat.le_refl _, rfl, by rw [List.drop_eq_nil_of_le (by rw [HL.out]; omega)]; exact S1, Off.refl _ _⟩
      case round =>
        clear S1
        obtain ⟨k, hk, rfl, hS, hoff⟩ := hrel
        by_cases hlt : 0 < k
        · obtain ⟨m, rfl⟩ : ∃ m, k = m + 1 := ⟨k - 1, by omega⟩
          have hcm : (((m + 1 : Nat) : Int) - 1) = (m : Int) := by omega
          rw [hcm]
          have c0 : wr.cell? ⟨g, o + m, none⟩ = some (.int .i64 (xs.getD m 0)) := ((hoff.at g (by have := q1.size; omega) (by simp; omega)).1 _).trans ((q1.cell (p := ⟨g, o + m, none⟩) hlt0).trans (hc m (by omega)))
          have hg0 : g < wr.heap.size := by have := q1.size; have := hoff.size; omega
          have hb := bitsVal_le xs HL.out HO.out (m + 1) (by omega)
          have hb0 := bitsVal_le xs HL.out HO.out m (by omega)
          have hx := HO.out m (by rw [HL.out]; omega)
          have HE := bitsVal_drop xs m (by rw [HL.out]; omega)
          have HE1 : Hid (bitsVal (xs.drop m) = ((bitsVal (xs.drop (m + 1)) + bitsVal (xs.drop (m + 1))) % 256 + xs.getD m 0) % 256) := by show _ = _; omega
          have e2 : bitsVal (xs.drop (m + 1)) + bitsVal (xs.drop (m + 1)) ≤ 255 := by omega
          clear hc hcm HE hb0
          generalize bitsVal (xs.drop (m + 1)) = y at *
          generalize xs.getD m 0 = x at *
          have s1 := hS.at.1
          go_wp2_with fail
          have tok : True := trivial
          have hgA : (0 : Int) ≤ (y + y) % 256 := by omega
          have hgB : (y + y) % 256 < 256 := by omega
          have o1 := hb.1
          have o2 : y < 256 := by omega
          have o3 : x < 256 := by omega
          have o4 : x ≤ 256 := by omega
          have hS0 := hS.drew
          clear hS hlt hne hSg
          go_region_with (first | (go_at_call 59; have _t := tok; refine (impl_plus 256 y y _ (by decide) (by decide) o1 o2 o1 o2).mono ?_; rintro e w2 ⟨rfl, hbA⟩; have hSA := Blk.keep hS0 hbA; have cA := (hbA.cell (p := ⟨g, o + m, none⟩) hg0).trans c0; have sA := hSA.at.1; clear tok) | (go_at_call 47; refine (impl_elementOf 256 x _ (by decide) (by decide) hx.1 o4).mono ?_; rintro e w3 ⟨rfl, hbB⟩; have hSB := hSA.keep hbB; have sB := hSB.at.1) | (go_at_call 59; refine (impl_plus 256 ((y + y) % 256) x _ (by decide) (by decide) hgA hgB hx.1 o3).mono ?_; rintro e w4 ⟨rfl, hb4⟩; have hS4 := hSB.keep hb4; have s4 := hS4.at.1; have f4 := hS4.at.2))
          all_goals
            have hoffE := (((hoff.drew).trans (Off.ofBelow hbA)).trans (Off.ofBelow hbB)).trans (Off.ofBelow hb4)
            have hSE := (hS4.set 0 (.int .u16 256)).set 1 (.int .u16 (((y + y) % 256 + x) % 256))
            clear hSA hSB hS4 s4 f4 sA sB cA c0 hS0
            go_wp2
            go_roundw
            case rel => exact ⟨m, by omega, by go_num, by rw [HE1.out]; simpa using hSE, (hoffE.setCell _ _ (.inl (by simp))).setCell _ _ (.inl (by simp))⟩
            case measure => simp [intOf]
        · obtain rfl : k = 0 := by omega
          have HF : Hid (fromB xs = (0, bitsVal (xs.drop 0))) := fromB_ok xs HL.out HO.out
          have hb0 := bitsVal_le xs HL.out HO.out 0 (by omega)
          clear hc
          generalize bitsVal (xs.drop 0) = y at *
          have s1 := hS.at.1
          have zS := hS.lt
          have R3 := R2.off hoff (by simp; omega)
          have q3 : Below w.heap.size w wr := q1.trans (hoff.toBelow q1.size (by simp; omega))
          go_wp2_with fail
          refine (impl_result _ _ _ (by omega) (by omega)).mono ?_
          rintro e w5 ⟨rfl, hb5⟩
          have R5 := R3.keep hb5
          have r5 := R5.at
          have z5 := hb5.size
          have r1 := r5.1
          have r2 := r5.2
          have q3s := q3.size
          clear r5 s1
          go_wp2
          refine bodyPost_ret (v := .agg #[.int .i64 0, .int .i64 y]) (by simp [results, Try.results37, go_sem, r1]) rfl ⟨by rw [HF.out], (by have zz0 := (hb5).size; (try simp at zz0); have zz1 := (q3).size; (try simp at zz1); repeat (first | exact Below.refl _ _ | refine Below.drew ?_ | refine below_drewN ?_ _ | refine Below.setCell ?_ (by first | omega | (simp; done) | (simp; omega)) _ | refine Below.alloc ?_ (by first | omega | (simp; done) | (simp; omega)) _ | refine bcall ?_ hb5 (by first | omega | (simp; done) | (simp; omega)) | refine bcall ?_ q3 (by first | omega | (simp; done) | (simp; omega))))⟩
    · rw [show elC 2 xs = 3 from if_neg hgood] at KE
      have HB : Hid (fromB xs = (3, 0)) := fromB_bad xs HL.out (fun h => hgood ((okE_iff 2 xs).2 fun j hj => by have := h j hj; omega))
      clear hgood hc
      go_enter Try.func37, Try.ntmps37
      go_wp2_with fail
      refine (KE _ (HV.out.below (by first | exact Below.refl _ _ | exact (by repeat (first | exact Below.refl _ _ | refine Below.drew ?_ | refine below_drewN ?_ _ | refine Below.setCell ?_ (by first | omega | (simp; done) | (simp; omega)) _ | refine Below.alloc ?_ (by first | omega | (simp; done) | (simp; omega)) _))))).mono ?_
      rintro e w' ⟨rfl, rfl⟩
      clear KE
      go_wp2
      refine bodyPost_ret (v := .agg #[.int .i64 3, .int .i64 0]) (by simp [results, Try.results37, go_sem]) rfl ⟨by rw [HB.out], (by repeat (first | exact Below.refl _ _ | refine Below.drew ?_ | refine below_drewN ?_ _ | refine Below.setCell ?_ (by first | omega | (simp; done) | (simp; omega)) _ | refine Below.alloc ?_ (by first | omega | (simp; done) | (simp; omega)) _))⟩
  · rw [fromB_many xs hl]
    have hne : ((xs.length : Int) == 8) = false := by simp; omega
    go_enter Try.func37, Try.ntmps37
    go_wp2
    exact bodyPost_ret (v := .agg #[.int .i64 2, .int .i64 0]) (by simp [results, Try.results37, go_sem]) rfl ⟨rfl, (by repeat (first | exact Below.refl _ _ | refine Below.drew ?_ | refine below_drewN ?_ _ | refine Below.setCell ?_ (by first | omega | (simp; done) | (simp; omega)) _ | refine Below.alloc ?_ (by first | omega | (simp; done) | (simp; omega)) _))⟩
end Go.Proofs.Ytbmemdgeohnpnan
