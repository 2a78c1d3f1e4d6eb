/-
  Contracts of BitsOf and FromBits, of the program and of its model.
-/
import Derived.Test.YtepobckhfodngaoGreatElem
import Derived.Test.YtepobckhfodngaoGreatEq
namespace Go.Proofs.YtepobckhfodngaoGreat
open Go.ChangeShapes Go.WideShapes Go.ChangeAt Go.RowKit
set_option linter.unusedVariables false

/-- n bits of v, the lowest first -/
def bitsN (v : Int) : Nat → List Int
  | 0 => []
  | n + 1 => v % 2 :: bitsN (v / 2) n
theorem bitsN_length (v : Int) (n : Nat) : (bitsN v n).length = n := by
  induction n generalizing v with
  | zero => rfl
  | succ n ih => simp [bitsN, ih]
/-- what is left of v behind n bits -/
def halfN (v : Int) : Nat → Int
  | 0 => v
  | n + 1 => halfN v n / 2
theorem halfN_half (v : Int) (n : Nat) : halfN (v / 2) n = halfN v n / 2 := by
  induction n with
  | zero => rfl
  | succ n ih => show halfN (v / 2) n / 2 = _; rw [ih]; rfl
theorem bitsN_snoc (v : Int) (n : Nat) : bitsN v (n + 1) = bitsN v n ++ [halfN v n % 2] := by
  induction n generalizing v with
  | zero => rfl
  | succ n ih => rw [bitsN, ih, halfN_half]; rfl
theorem halfN_range (v : Int) (n : Nat) (h : 0 ≤ v) (h' : v ≤ 255) : 0 ≤ halfN v n ∧ halfN v n ≤ 255 := by
  induction n with
  | zero => exact ⟨h, h'⟩
  | succ n ih => show 0 ≤ halfN v n / 2 ∧ halfN v n / 2 ≤ 255; omega

set_option maxHeartbeats 400000 in
set_option maxRecDepth 100000 in
theorem spec_l1Bits (v : Int) (w : World) (h : 0 ≤ v) (h' : v ≤ 255) : Calls Tryz.prog 106 #[.int .i64 v] w fun e w' => ∃ lv bs, e = .returned lv ∧ IntsT w' lv (bitsN v 8) bs ∧ (∀ g ∈ bs, w.heap.size ≤ g) ∧ Below w.heap.size w w' := by
  obtain ⟨i0, hi, hz0, hz1, hz2⟩ := info_parts Tryz.infoI
  go_enter Tryz.func106, Tryz.ntmps106
  go_wp2
  go_loopw [0, 3, 4] (fun x o i wr => ∃ k : Nat, k ≤ 8 ∧ i = .int .i64 k ∧ x = .int .i64 (halfN v k) ∧ wr.ownsRow w.heap.size 2 1 o k ((bitsN v k).map (Value.int .i64)) ∧ Below w.heap.size w wr) (fun _ _ i _ => 8 - (intOf i).toNat)
  case atStart =>
    exact ⟨0, Nat.zero_le _, rfl, rfl, by simpa [bitsN] using World.ownsRow_lit (base := w.heap.size) (e := 2) (size := 1) w #[] 0 (Nat.le_refl _) (Nat.zero_le _) rfl, (by repeat (first | exact Below.refl _ _ | refine Below.drew ?_ | refine below_drewN ?_ _ | refine Below.setCell ?_ (by first | omega | (simp; done) | (simp; omega)) _ | refine Below.alloc ?_ (by first | omega | (simp; done) | (simp; omega)) _))⟩
  case round =>
    obtain ⟨k, hk, rfl, rfl, hown, hbel⟩ := hrel
    by_cases hlt : k < 8
    · obtain ⟨r1, r2⟩ := halfN_range v k h h'
      have hsn : Hid (bitsN v (k + 1) = bitsN v k ++ [halfN v k % 2]) := bitsN_snoc v k
      have hhn : Hid (halfN v (k + 1) = halfN v k / 2) := rfl
      have hsz := hbel.size
      generalize halfN v k = y at *
      go_wp2_with (at_builtin; refine wpList_append_own _ rfl _ _ 25 rfl w.heap.size 2 i0 (.int .i64 0) 1 8 Tryz.underlying25 hi hz0 hz1 hz2 rfl (by decide) _ _ _ rfl (hown.alloc _) ⟨wr.heap.size, 0, none⟩ 1 1 [.int .i64 (y % 2)] rfl rfl ?c1 ?c2 ?c3 ?c4 ?c5 ?_)
      case c1 => exact cell_one_new _ _ _
      case c2 => intro u hu; simp at hu; subst hu; rfl
      case c3 => unfold maxLen; omega
      case c4 => omega
      case c5 => simp; omega
      intro v' w1 hown' hgrow _
      have hb' : Below w.heap.size w w1 := (hbel.alloc hsz _).grown hgrow (by simp; omega) (fun k e => (hown.lt k e).1)
      have ho : w1.ownsRow w.heap.size 2 1 v' (k + 1) ((bitsN v (k + 1)).map (Value.int .i64)) := by rw [hsn.out]; simpa using hown'
      clear hown' hgrow hown hbel hsz
      go_wp2
      go_roundw
      case rel => exact ⟨k + 1, by omega, by go_num, by rw [hhn.out], ho, hb'⟩
      case measure => simp [intOf]; omega
    · obtain rfl : k = 8 := by omega
      go_wp2
      go_ret
      obtain ⟨bs, h1, h2⟩ := Own.of_owns hown
      exact ⟨_, bs, rfl, h1, h2, hbel⟩

theorem halfN_pow (v : Int) (n : Nat) (h : 0 ≤ v) : halfN v n = v / 2 ^ n := by
  induction n with
  | zero => simp [halfN]
  | succ n ih => show halfN v n / 2 = _; rw [ih, Int.ediv_ediv_of_nonneg (Int.pow_nonneg (by omega)), Int.pow_succ]
theorem and_one_u16 (E : Int) (h0 : 0 ≤ E) (h1 : E ≤ 255) : bits BinOp.and IntKind.u16 E 1 = E % 2 := by
  have h : ∀ n : Fin 256, bits BinOp.and IntKind.u16 ((n.val : Nat) : Int) 1 = ((n.val : Nat) : Int) % 2 := by decide +kernel
  have := h ⟨E.toNat, by omega⟩
  simp only [Int.toNat_of_nonneg h0] at this
  exact this
theorem impl_bit (q x : Int) (i : Nat) (w : World) (hx : 0 ≤ x) (hx' : x ≤ 255) (hi : i ≤ 7) : Calls Tryz.prog 137 #[.agg #[.int .u16 q, .int .u16 x], .int .i64 i] w fun e w' => e = .returned (.int .i64 (halfN x i % 2)) ∧ Below w.heap.size w w' := by
  obtain ⟨r1, r2⟩ := halfN_range x i hx hx'
  rw [halfN_pow x i hx] at *
  have e1 : wrap64 (bits BinOp.and IntKind.u16 (x / 2 ^ i) 1) = x / 2 ^ i % 2 := by rw [and_one_u16 _ r1 r2]; exact IntWalk.wrap64_in _ ⟨by omega, by omega⟩
  clear r1 r2
  go_enter Tryz.func137, Tryz.ntmps137
  go_wp2
  go_ret
  refine ⟨?_, (by repeat (first | exact Below.refl _ _ | refine Below.drew ?_ | refine below_drewN ?_ _ | refine Below.setCell ?_ (by first | omega | (simp; done) | (simp; omega)) _ | refine Below.alloc ?_ (by first | omega | (simp; done) | (simp; omega)) _))⟩
  show Ending.returned (.int .i64 (wrap64 (bits BinOp.and IntKind.u16 (x / 2 ^ i) 1))) = _
  rw [e1]

/-- the bits of an element; none where it is none -/
def bitsL (v : Int) : List Int := if 0 ≤ v ∧ v ≤ 255 then bitsN v 8 else []
theorem bitsL_length (v : Int) : (bitsL v).length ≤ 8 := by unfold bitsL; split <;> simp [bitsN_length]
end Go.Proofs.YtepobckhfodngaoGreat
