/-
  A net inside of a ManyResult, in the model: words taken and told, one input.
-/
import Derived.Test.YtbmemdgeohnpnalGreatInS
import Derived.Test.YtbmemdgeohnpnalGreatTy2
namespace Go.Proofs.YtbmemdgeohnpnalGreat
open Go.ChangeShapes Go.WideShapes Go.ChangeAt Go.RowKit
set_option linter.unusedVariables false

set_option maxHeartbeats 1000000 in
theorem spec_l2Word_at2 (b : Nat) (v : Value) (xss : List (List Int)) (l m : Nat) (w : World) (xa : w.cell? ⟨b, 2, none⟩ = some v) (hv : ReadsM w v xss) (hl : l < xss.length) :
    Calls Tryz.prog 146 #[.pointer (some ⟨b, 2, none⟩), .int .i64 l, .int .i64 m] w fun e w' => e = .returned (.int .i64 (word xss l m)) ∧ w = w' := by
  obtain ⟨p, c, rfl⟩ := hv.shp
  have HW : Hid (word xss l m = (xss.getD l []).getD m 0) := rfl
  have hi : (l : Int) < (xss.length : Int) := by omega
  obtain ⟨b1, off, q, d, rfl, hlt, c1, r1⟩ := hv.lane l hl
  clear hv hl
  have hml := r1.le
  unfold maxLen at hml
  by_cases hm : m < (xss.getD l []).length
  · obtain ⟨b2, off2, rfl, hlt2, c2⟩ := r1.one m hm
    have hm' : (m : Int) < ((xss.getD l []).length : Int) := by omega
    clear r1 hm
    generalize (xss.getD l []).getD m 0 = y at *
    generalize xss.getD l [] = ys at *
    go_enter Tryz.func146, Tryz.ntmps146
    go_wp2
    go_ret
    exact ⟨by rw [HW.out]; rfl, rfl⟩
  · have hz : (xss.getD l []).getD m 0 = 0 := by rw [List.getD_eq_getElem?_getD, List.getElem?_eq_none (by omega)]; rfl
    rw [hz] at HW
    clear hz r1
    generalize xss.getD l [] = ys at *
    go_enter Tryz.func146, Tryz.ntmps146
    go_wp2
    go_ret
    exact ⟨by rw [HW.out]; rfl, rfl⟩
set_option maxHeartbeats 4000000 in
set_option maxRecDepth 100000 in
theorem spec_l4Take2 (b : Nat) (x : MNet) (q0 q1 q2 : Option Addr) (d0 d1 d2 : Nat) (b1 : List Nat) (l : Nat) (q : Int) (w : World) (hb : Blk w b 56 #[.int .i64 0, .slice none 0 0, .slice q0 x.xTape.length d0, .slice q1 x.xUsed.length d1, .int .i64 x.xSent, .slice q2 x.xHeard.length d2, .int .i64 x.xCheat.xWho, .int .i64 x.xCheat.xAt, .int .i64 x.xCheat.xBy, .bool x.xCheat.xCry, .bool x.xQuarrel.xSome, .int .i64 x.xQuarrel.xFrom, .int .i64 x.xQuarrel.xCheck, .int .i64 x.xQuarrel.xTo, .int .i64 x.xQuarrel.xTold, .int .i64 x.xQuarrel.xHeard, .int .i64 x.xQuarrel.xOther, .int .i64 x.xQuarrel.xVowed]) (h0 : ReadsM w (.slice q0 x.xTape.length d0) x.xTape) (h1 : Ints w (.slice q1 x.xUsed.length d1) x.xUsed b1) (hl : l < x.xUsed.length) (ht : l < x.xTape.length) (hq : q = 2 ∨ q = 256) (hu : 0 ≤ used x l ∧ used x l ≤ 900000) (hw : 0 ≤ word x.xTape l (used x l)) (hnb : b ∉ b1) :
    Calls Tryz.prog 116 #[.pointer (some ⟨b, 2, none⟩), .int .i64 l, .int .i64 q] w fun e w' => e = .returned (.int .i64 (word x.xTape l (used x l) % q)) ∧ Ints w' (.slice q1 x.xUsed.length d1) (x.xUsed.set l (used x l + 1)) b1 ∧ Off b1 w w' := by
  obtain ⟨m, hm⟩ := Int.eq_ofNat_of_zero_le hu.1
  obtain ⟨te, hO⟩ := h1
  obtain ⟨g, cap, rfl, e1, hcap, _⟩ := Own.shape hO (by omega)
  simp only [Value.slice.injEq, true_and] at e1
  obtain ⟨rfl, rfl⟩ := e1
  have ca : w.cell? ⟨g, l, none⟩ = some (.int .i64 (used x l)) := by
    rw [Own.cell hO l (by omega)]
    simp [used, hl]
  have cf := Own.frozen hO l
  have K := fun V (h : V.cell? ⟨b, 2, none⟩ = some (.slice q0 x.xTape.length d0)) (h' : ReadsM V (.slice q0 x.xTape.length d0) x.xTape) => spec_l2Word_at2 b (.slice q0 x.xTape.length d0) x.xTape l m V h h' ht
  have hS0 : Ints (w.setCell ⟨g, l, none⟩ (.int .i64 (used x l + 1))) (.slice (some ⟨g, 0, none⟩) x.xUsed.length d1) (x.xUsed.set l (used x l + 1)) [g] := by
    have := Own.set hO l (.int .i64 (used x l + 1))
    refine ⟨te, ?_⟩
    rw [List.length_set]
    simpa [List.map_set] using this
  have HF : Hid (∀ V, Off [] (w.setCell ⟨g, l, none⟩ (.int .i64 (used x l + 1))) V → Ints V (.slice (some ⟨g, 0, none⟩) x.xUsed.length d1) (x.xUsed.set l (used x l + 1)) [g] ∧ Off [g] w V) := fun V hV => ⟨hS0.off hV (by simp), ((Off.refl _ _).setCell _ _ (by simp)).trans (hV.mono (by simp))⟩
  rw [← hm] at K
  have hg : b ≠ g := fun e => hnb (by simp [e])
  have xa := hb.at.1
  have hS : (∀ o, w.cell? ⟨b, o, none⟩ = (#[.int .i64 0, .slice none 0 0, .slice q0 x.xTape.length d0, .slice (some ⟨g, 0, none⟩) x.xUsed.length d1, .int .i64 x.xSent, .slice q2 x.xHeard.length d2, .int .i64 x.xCheat.xWho, .int .i64 x.xCheat.xAt, .int .i64 x.xCheat.xBy, .bool x.xCheat.xCry, .bool x.xQuarrel.xSome, .int .i64 x.xQuarrel.xFrom, .int .i64 x.xQuarrel.xCheck, .int .i64 x.xQuarrel.xTo, .int .i64 x.xQuarrel.xTold, .int .i64 x.xQuarrel.xHeard, .int .i64 x.xQuarrel.xOther, .int .i64 x.xQuarrel.xVowed] : Array Value)[o]?) ∧ w.cell? ⟨g, l, none⟩ = some (.int .i64 (used x l)) := ⟨xa, ca⟩
  have hi : (l : Int) < (x.xUsed.length : Int) := by omega
  have HM : Hid (word x.xTape l (used x l) = word x.xTape l (used x l)) := rfl
  generalize used x l = u at *
  generalize hy : word x.xTape l u = y at *
  clear hO hS0 hb xa ca hm hy HM
  go_enter Tryz.func116, Tryz.ntmps116
  go_wp2_with fail
  go_region_held3 (fun V => (∀ o, V.cell? ⟨b, o, none⟩ = (#[.int .i64 0, .slice none 0 0, .slice q0 x.xTape.length d0, .slice (some ⟨g, 0, none⟩) x.xUsed.length d1, .int .i64 x.xSent, .slice q2 x.xHeard.length d2, .int .i64 x.xCheat.xWho, .int .i64 x.xCheat.xAt, .int .i64 x.xCheat.xBy, .bool x.xCheat.xCry, .bool x.xQuarrel.xSome, .int .i64 x.xQuarrel.xFrom, .int .i64 x.xQuarrel.xCheck, .int .i64 x.xQuarrel.xTo, .int .i64 x.xQuarrel.xTold, .int .i64 x.xQuarrel.xHeard, .int .i64 x.xQuarrel.xOther, .int .i64 x.xQuarrel.xVowed] : Array Value)[o]?) ∧ V.cell? ⟨g, l, none⟩ = some (.int .i64 u)) (exact hS) (first | (go_at_call 146; refine (K _ (by exact hS.1 2) (by exact h0.below (Below.refl _ _).drew)).mono ?_; rintro e w9 ⟨rfl, rfl⟩))
  have xa := hS.1
  have ca := hS.2
  clear hS K h0
  rcases hq with rfl | rfl
  · go_wp2
    go_ret
    exact ⟨rfl, HF.out _ (Off.refl _ _).drew⟩
  · go_wp2
    go_ret
    exact ⟨rfl, HF.out _ (Off.refl _ _).drew⟩
set_option maxHeartbeats 2000000 in
theorem spec_l4Tell2 (b : Nat) (x : MNet) (p0 p1 p2 : Option Addr) (l0 l1 l2 c0 c1 c2 : Nat) (s q who v : Int) (w : World) (hb : Blk w b 56 #[.int .i64 0, .slice none 0 0, .slice p0 l0 c0, .slice p1 l1 c1, .int .i64 s, .slice p2 l2 c2, .int .i64 x.xCheat.xWho, .int .i64 x.xCheat.xAt, .int .i64 x.xCheat.xBy, .bool x.xCheat.xCry, .bool x.xQuarrel.xSome, .int .i64 x.xQuarrel.xFrom, .int .i64 x.xQuarrel.xCheck, .int .i64 x.xQuarrel.xTo, .int .i64 x.xQuarrel.xTold, .int .i64 x.xQuarrel.xHeard, .int .i64 x.xQuarrel.xOther, .int .i64 x.xQuarrel.xVowed]) (hs : 0 ≤ s ∧ s ≤ 1000000) (hq : q = 2 ∨ q = 256) (hv : 0 ≤ v ∧ v ≤ 255) (hy : 0 ≤ x.xCheat.xBy ∧ x.xCheat.xBy ≤ 255) :
    Calls Tryz.prog 117 #[.pointer (some ⟨b, 2, none⟩), .int .i64 q, .int .i64 who, .int .i64 v] w fun e w' => e = .returned (.int .i64 (tellV x.xCheat q s who v)) ∧ Blk w' b 56 #[.int .i64 0, .slice none 0 0, .slice p0 l0 c0, .slice p1 l1 c1, .int .i64 (s + 1), .slice p2 l2 c2, .int .i64 x.xCheat.xWho, .int .i64 x.xCheat.xAt, .int .i64 x.xCheat.xBy, .bool x.xCheat.xCry, .bool x.xQuarrel.xSome, .int .i64 x.xQuarrel.xFrom, .int .i64 x.xQuarrel.xCheck, .int .i64 x.xQuarrel.xTo, .int .i64 x.xQuarrel.xTold, .int .i64 x.xQuarrel.xHeard, .int .i64 x.xQuarrel.xOther, .int .i64 x.xQuarrel.xVowed] ∧ Off [b] w w' := by
  have xa := hb.at.1
  have xb := hb.at.2
  have xl := hb.lt
  have HB : Hid (Blk (w.setCell ⟨b, 4, none⟩ (.int .i64 (s + 1))) b 56 #[.int .i64 0, .slice none 0 0, .slice p0 l0 c0, .slice p1 l1 c1, .int .i64 (s + 1), .slice p2 l2 c2, .int .i64 x.xCheat.xWho, .int .i64 x.xCheat.xAt, .int .i64 x.xCheat.xBy, .bool x.xCheat.xCry, .bool x.xQuarrel.xSome, .int .i64 x.xQuarrel.xFrom, .int .i64 x.xQuarrel.xCheck, .int .i64 x.xQuarrel.xTo, .int .i64 x.xQuarrel.xTold, .int .i64 x.xQuarrel.xHeard, .int .i64 x.xQuarrel.xOther, .int .i64 x.xQuarrel.xVowed]) := Blk.of_eq (hb.set 4 _) (by simp)
  have HO : Hid (Off [b] w (w.setCell ⟨b, 4, none⟩ (.int .i64 (s + 1)))) := (Off.refl _ _).setCell _ _ (by simp)
  clear hb
  by_cases h1 : x.xCheat.xWho = who
  · have e1 : (x.xCheat.xWho == who) = true := by simpa using h1
    by_cases h2 : x.xCheat.xAt = s
    · have e2 : (x.xCheat.xAt == s) = true := by simpa using h2
      rw [tellV_yes h1 h2]
      clear h1 h2
      go_enter Tryz.func117, Tryz.ntmps117
      go_wp2_with fail
      refine (spec_l1Mod _ _ _ (by omega) (by omega)).mono ?_
      rintro e w' ⟨rfl, rfl⟩
      go_wp2
      go_ret
      exact ⟨rfl, HB.out, HO.out⟩
    · have e2 : (x.xCheat.xAt == s) = false := by simpa using h2
      rw [tellV_no2 h2]
      clear h1 h2
      go_enter Tryz.func117, Tryz.ntmps117
      go_wp2
      go_ret
      exact ⟨rfl, HB.out, HO.out⟩
  · have e1 : (x.xCheat.xWho == who) = false := by simpa using h1
    rw [tellV_no1 h1]
    clear h1
    go_enter Tryz.func117, Tryz.ntmps117
    go_wp2
    go_ret
    exact ⟨rfl, HB.out, HO.out⟩
def InPost2 (w w' : World) (e : Ending) (b0 : Nat) (x : MNet) (q0 q1 : Option Addr) (gH d0 d1 d2 : Nat) (bt b1 b2 : List Nat) (o : Nat) (v : Int) : Prop :=
  ∃ p c bm cs, e = .returned (.agg #[.int .i64 256, .slice p 4 c]) ∧ Mat w' (.slice p 4 c) (mirRows (inParts x o v)) bm ∧ (∀ y ∈ bm, w.heap.size ≤ y) ∧ Dj bm cs ∧ Blk w' b0 56 #[.int .i64 0, .slice none 0 0, .slice q0 x.xTape.length d0, .slice q1 x.xUsed.length d1, .int .i64 (inSt x o 4), .slice (some ⟨gH, 0, none⟩) x.xHeard.length d2, .int .i64 x.xCheat.xWho, .int .i64 x.xCheat.xAt, .int .i64 x.xCheat.xBy, .bool x.xCheat.xCry, .bool x.xQuarrel.xSome, .int .i64 x.xQuarrel.xFrom, .int .i64 x.xQuarrel.xCheck, .int .i64 x.xQuarrel.xTo, .int .i64 x.xQuarrel.xTold, .int .i64 x.xQuarrel.xHeard, .int .i64 x.xQuarrel.xOther, .int .i64 x.xQuarrel.xVowed] ∧ Mat w' (.slice q0 x.xTape.length d0) x.xTape bt ∧ Ints w' (.slice q1 x.xUsed.length d1) (inU x.xUsed o 4) b1 ∧ MatT w' (.slice (some ⟨gH, 0, none⟩) x.xHeard.length d2) (inHd x o (inL x o v 4) 4) cs ∧ (∀ y ∈ cs, y ∈ b2 ∨ w.heap.size ≤ y) ∧ Off (b0 :: (b1 ++ b2)) w w'
theorem takeS_at2 (b0 : Nat) (x : MNet) (q0 q1 : Option Addr) (gH d0 d1 d2 : Nat) (b1 : List Nat) (us : List Int) (n : Nat) (w : World) (Z : Blk w b0 56 #[.int .i64 0, .slice none 0 0, .slice q0 x.xTape.length d0, .slice q1 x.xUsed.length d1, .int .i64 x.xSent, .slice (some ⟨gH, 0, none⟩) x.xHeard.length d2, .int .i64 x.xCheat.xWho, .int .i64 x.xCheat.xAt, .int .i64 x.xCheat.xBy, .bool x.xCheat.xCry, .bool x.xQuarrel.xSome, .int .i64 x.xQuarrel.xFrom, .int .i64 x.xQuarrel.xCheck, .int .i64 x.xQuarrel.xTo, .int .i64 x.xQuarrel.xTold, .int .i64 x.xQuarrel.xHeard, .int .i64 x.xQuarrel.xOther, .int .i64 x.xQuarrel.xVowed]) (T : ReadsM w (.slice q0 x.xTape.length d0) x.xTape) (U : Ints w (.slice q1 x.xUsed.length d1) us b1) (hlen : us.length = x.xUsed.length) (h4 : x.xUsed.length = 4) (ht : x.xTape.length = 4) (hn : n < 4) (hu : 0 ≤ us.getD n 0 ∧ us.getD n 0 ≤ 900000) (hw : 0 ≤ word x.xTape n (us.getD n 0)) (n1 : b0 ∉ b1) :
    Calls Tryz.prog 116 #[.pointer (some ⟨b0, 2, none⟩), .int .i64 n, .int .i64 256] w fun e w' => e = .returned (.int .i64 (word x.xTape n (us.getD n 0) % 256)) ∧ Ints w' (.slice q1 x.xUsed.length d1) (us.set n (us.getD n 0 + 1)) b1 ∧ Off b1 w w' := by
  have e : used { x with xUsed := us } n = us.getD n 0 := by show us.getD (n : Int).toNat 0 = _; rw [Int.toNat_natCast]
  have := spec_l4Take2 b0 { x with xUsed := us } q0 q1 (some ⟨gH, 0, none⟩) d0 d1 d2 b1 n 256 w (by dsimp only; rw [hlen]; exact Z) T (by dsimp only; rw [hlen]; exact U) (by dsimp only; omega) (by dsimp only; omega) (.inr rfl) (by rw [e]; exact hu) (by rw [e]; exact hw) n1
  rw [e] at this
  dsimp only at this
  rw [hlen] at this
  exact this
set_option maxHeartbeats 16000000 in
set_option maxRecDepth 100000 in
theorem spec_l6Input2 (b0 : Nat) (x : MNet) (q0 q1 : Option Addr) (gH d0 d1 d2 : Nat) (bt b1 b2 : List Nat) (o : Nat) (v : Int) (w : World) (Z : Blk w b0 56 #[.int .i64 0, .slice none 0 0, .slice q0 x.xTape.length d0, .slice q1 x.xUsed.length d1, .int .i64 x.xSent, .slice (some ⟨gH, 0, none⟩) x.xHeard.length d2, .int .i64 x.xCheat.xWho, .int .i64 x.xCheat.xAt, .int .i64 x.xCheat.xBy, .bool x.xCheat.xCry, .bool x.xQuarrel.xSome, .int .i64 x.xQuarrel.xFrom, .int .i64 x.xQuarrel.xCheck, .int .i64 x.xQuarrel.xTo, .int .i64 x.xQuarrel.xTold, .int .i64 x.xQuarrel.xHeard, .int .i64 x.xQuarrel.xOther, .int .i64 x.xQuarrel.xVowed]) (T : Mat w (.slice q0 x.xTape.length d0) x.xTape bt) (U : Ints w (.slice q1 x.xUsed.length d1) x.xUsed b1) (H : MatT w (.slice (some ⟨gH, 0, none⟩) x.xHeard.length d2) x.xHeard b2)
    (n0 : b0 ∉ bt) (n1 : b0 ∉ b1) (n2 : b0 ∉ b2) (e01 : Dj bt b1) (e02 : Dj bt b2) (e12 : Dj b1 b2) (ho : o < 4) (hv : 0 ≤ v ∧ v < 256) (h4 : x.xTape.length = 4 ∧ x.xUsed.length = 4 ∧ x.xHeard.length = 4) (hu : ∀ j, j < 4 → 0 ≤ x.xUsed.getD j 0 ∧ x.xUsed.getD j 0 ≤ 900000) (hw : ∀ l k : Int, 0 ≤ word x.xTape l k) (hs : 0 ≤ x.xSent ∧ x.xSent ≤ 900000) (hy : 0 ≤ x.xCheat.xBy ∧ x.xCheat.xBy ≤ 255) (hr : ∀ j, (x.xHeard.getD j []).length ≤ 500000000) :
    Calls Tryz.prog 92 #[.pointer (some ⟨b0, 2, none⟩), .int .i64 o, .int .i64 v] w fun e w' => InPost2 w w' e b0 x q0 q1 gH d0 d1 d2 bt b1 b2 o v := by
  have HT4 : Hid (x.xTape.length = 4 ∧ x.xUsed.length = 4 ∧ x.xHeard.length = 4) := h4
  unfold InPost2 inParts
  have HU : Hid (∀ j, j < 4 → 0 ≤ x.xUsed.getD j 0 ∧ x.xUsed.getD j 0 ≤ 900000) := hu
  have HWD : Hid (∀ l k : Int, 0 ≤ word x.xTape l k) := hw
  have HRW : Hid (∀ j, (x.xHeard.getD j []).length ≤ 500000000) := hr
  clear h4 hu hw hr
  have lt0 := Z.lt
  have ltt := T.lt
  have lt1 := U.lt
  have lt2 := H.lt
  have hmk : ∀ w, (Instr.makeSlice 25 (.int .i64 4) (.int .i64 4)).run Tryz.prog w = .ok (.slice (some ⟨w.heap.size, 0, none⟩) 4 4) (w.alloc (.cells #[.int .i64 0, .int .i64 0, .int .i64 0, .int .i64 0] 2)) := fun w => by kernel_rfl
  obtain ⟨W0, eW0⟩ : ∃ y, y = (w.alloc (.cells #[.int .i64 0, .slice none 0 0] 36)).alloc (.cells #[.int .i64 0, .int .i64 0, .int .i64 0, .int .i64 0] 2) := ⟨_, rfl⟩
  have B1 : Below w.heap.size w W0 := by rw [eW0]; exact (by repeat (first | exact Below.refl _ _ | refine Below.drew ?_ | refine below_drewN ?_ _ | refine Below.setCell ?_ (by first | omega | (simp; done) | (simp; omega)) _ | refine Below.alloc ?_ (by first | omega | (simp; done) | (simp; omega)) _))
  have R0 : Blk W0 w.heap.size 36 #[.int .i64 0, .slice none 0 0] := by rw [eW0]; exact (Blk.new w _ _).alloc _
  have P0 : Blk W0 (w.heap.size + 1) 2 (agC (inP x o 0)) := by
    rw [eW0]
    have := Blk.new (w.alloc (.cells #[.int .i64 0, .slice none 0 0] 36)) 2 #[.int .i64 0, .int .i64 0, .int .i64 0, .int .i64 0]
    simpa [agC, inP] using this
  go_enter Tryz.func92, Tryz.ntmps92
  go_wp2_with fail
  rw [← eW0]
  clear eW0
  have O1 : Off (b0 :: (b1 ++ b2)) w W0 := Off.ofBelow B1
  replace Z := Z.keep B1
  replace T := T.keep B1
  replace U := U.keep B1
  replace H := H.keep B1
  clear B1
  go_loopw [8, 9] (fun s c wr => ∃ n : Nat, n ≤ 4 ∧ c = .int .i64 n ∧ s = .int .i64 (inR x o v n) ∧ Blk wr b0 56 #[.int .i64 0, .slice none 0 0, .slice q0 x.xTape.length d0, .slice q1 x.xUsed.length d1, .int .i64 x.xSent, .slice (some ⟨gH, 0, none⟩) x.xHeard.length d2, .int .i64 x.xCheat.xWho, .int .i64 x.xCheat.xAt, .int .i64 x.xCheat.xBy, .bool x.xCheat.xCry, .bool x.xQuarrel.xSome, .int .i64 x.xQuarrel.xFrom, .int .i64 x.xQuarrel.xCheck, .int .i64 x.xQuarrel.xTo, .int .i64 x.xQuarrel.xTold, .int .i64 x.xQuarrel.xHeard, .int .i64 x.xQuarrel.xOther, .int .i64 x.xQuarrel.xVowed] ∧ Blk wr w.heap.size 36 #[.int .i64 0, .slice none 0 0] ∧ Blk wr (w.heap.size + 1) 2 (agC (inP x o n)) ∧ Mat wr (.slice q0 x.xTape.length d0) x.xTape bt ∧ Ints wr (.slice q1 x.xUsed.length d1) (inU x.xUsed o n) b1 ∧ MatT wr (.slice (some ⟨gH, 0, none⟩) x.xHeard.length d2) x.xHeard b2 ∧ Off (b0 :: (b1 ++ b2)) w wr) (fun _ c _ => 4 - (intOf c).toNat)
  case atStart => exact ⟨0, Nat.zero_le _, rfl, rfl, Z, R0, P0, T, U, H, O1⟩
  case round =>
    clear Z R0 P0 T U H O1
    obtain ⟨n, hn, rfl, rfl, Z, R0, P0, T, U, H, O1⟩ := hrel
    by_cases hlt : n < 4
    · have hi : (n : Int) < 4 := by omega
      have hi0 : (0 : Int) ≤ (n : Int) := by omega
      by_cases h1 : n = o
      · have HH : Hid (inP x o (n + 1) = inP x o n ∧ inR x o v (n + 1) = inR x o v n ∧ inU x.xUsed o (n + 1) = inU x.xUsed o n) := ⟨inP_out h1, inR_out h1, inU_out h1⟩
        have e1 : ((n : Int) != (o : Int)) = false := by simpa using (show (n : Int) = (o : Int) by omega)
        clear h1
        go_wp2
        go_roundw
        case rel => exact ⟨n + 1, by omega, by go_num, by rw [HH.out.2.1], Z, R0, by rw [HH.out.1]; exact P0, T, by rw [HH.out.2.2]; exact U, H, O1⟩
        case measure => simp [intOf]; omega
      · have HH : Hid (inP x o (n + 1) = (inP x o n).set n (inW x n) ∧ inR x o v (n + 1) = inR x o v n - inW x n ∧ inU x.xUsed o (n + 1) = (inU x.xUsed o n).set n ((inU x.xUsed o n).getD n 0 + 1)) := ⟨inP_in h1, inR_in h1, inU_in h1⟩
        have e1 : ((n : Int) != (o : Int)) = true := by simpa using (show ¬ (n : Int) = (o : Int) by omega)
        have eU := inU_ge x.xUsed o n n (Nat.le_refl _)
        have KT := takeS_at2 b0 x q0 q1 gH d0 d1 d2 b1 (inU x.xUsed o n) n wr Z T.reads U (inU_len _ _ _) HT4.out.2.1 HT4.out.1 hlt (by rw [eU]; exact HU.out n hlt) (HWD.out _ _) n1
        rw [show word x.xTape n ((inU x.xUsed o n).getD n 0) % 256 = inW x n by rw [eU]; rfl] at KT
        have hwb := inW_bd x n
        have hlb := inR_bd (x := x) (o := o) hv n
        have HPL : Hid ((inP x o n).length = 4) := inP_len x o n
        clear h1 eU
        generalize inW x n = y at *
        generalize inR x o v n = s at *
        go_wp2_with fail
        refine KT.mono ?_
        rintro e w2 ⟨rfl, U2, o2⟩
        have Z2 := Z.off o2 n1
        have R2 := R0.off o2 (fun h => by have := lt1 _ h; omega)
        have P2 := P0.off o2 (fun h => by have := lt1 _ h; omega)
        have T2 := T.off o2 e01
        have H2 := H.off o2 e12.symm
        have O2 := O1.trans (o2.mono (fun y hy => by simp [hy]))
        clear Z R0 P0 T U H O1 KT o2
        have pc : w2.cell? ⟨w.heap.size + 1, n, none⟩ = some (.int .i64 ((inP x o n).getD n 0)) := (P2.at.1 n).trans (agC_get (by rw [HPL.out]; exact hlt))
        have pf := P2.at.2 n
        have pl := P2.lt
        have OP : Off [w.heap.size + 1] w2 (w2.setCell ⟨w.heap.size + 1, n, none⟩ (.int .i64 y)) := (Off.refl _ _).setCell _ _ (by simp)
        have P3 := P2.set n (.int .i64 y)
        rw [agC_set, ← HH.out.1] at P3
        have Z3 := Z2.off OP (by simp; omega)
        have R3 := R2.off OP (by simp)
        have T3 := T2.off OP (fun g hg hm => by have := ltt g hg; simp at hm; omega)
        have U3 := U2.off OP (fun g hg hm => by have := lt1 g hg; simp at hm; omega)
        have H3 := H2.off OP (fun g hg hm => by have := lt2 g hg; simp at hm; omega)
        have O3 : Off (b0 :: (b1 ++ b2)) w (w2.setCell ⟨w.heap.size + 1, n, none⟩ (.int .i64 y)) := O2.setCell _ _ (.inr (by simp))
        clear Z2 R2 P2 T2 U2 H2 O2 OP
        go_wp2
        go_roundw
        case rel => exact ⟨n + 1, by omega, by go_num, by first | (rw [HH.out.2.1]; done) | (rw [HH.out.2.1]; go_num), Z3, R3, P3, T3, by rw [HH.out.2.2]; exact U3, H3, O3⟩
        case measure => simp [intOf]; omega
    · obtain rfl : n = 4 := by omega
      rw [show ((4 : Nat) : Int) = 4 from rfl]
      have hlb := inL_bd (x := x) (o := o) hv 4
      have KM := fun V => spec_l1Mod 256 (inR x o v 4) V (by omega) (by omega)
      rw [inR_mod hv 4] at KM
      generalize hlf : inL x o v 4 = left at *
      have HLF : Hid (inL x o v 4 = left) := hlf
      clear hlf
      generalize inR x o v 4 = rr at *
      obtain ⟨i1, gi, gz0, gz1, gz2⟩ := info_parts Tryz.infoI
      go_wp2_with fail
      refine (KM _).mono ?_
      rintro e w' ⟨rfl, rfl⟩
      clear KM
      have I0 : IntsT (wr.alloc (.cells #[] 2)) (.slice (some ⟨wr.heap.size, 0, none⟩) 0 0) [] [wr.heap.size] := Own.made0' wr 2 1 #[] 0 (by decide) rfl
      have plr := P0.lt
      have hB : Below wr.heap.size wr (wr.alloc (.cells #[] 2)) := (Below.refl _ _).alloc (Nat.le_refl _) _
      have HCS0 : ∀ y ∈ b2, y ∈ b2 ∨ w.heap.size + 1 < y := fun y hy => .inl hy
      have HD0 : Dj [wr.heap.size] b2 := fun g hg hm => by simp at hg; have := H.lt g hm; omega
      replace Z := Z.keep hB
      replace R0 := R0.keep hB
      replace P0 := P0.keep hB
      replace T := T.keep hB
      replace U := U.keep hB
      replace H := H.keep hB
      have O2 := O1.trans (Off.ofBelow hB)
      clear O1 hB
      go_wp2_with fail
      go_loopw [10, 11] (fun s c wr => ∃ n : Nat, ∃ bs cs : List Nat, n ≤ 4 ∧ c = .int .i64 n ∧ IntsT wr s (inH x o left n) bs ∧ (∀ y ∈ bs, w.heap.size + 1 < y) ∧ Blk wr b0 56 #[.int .i64 0, .slice none 0 0, .slice q0 x.xTape.length d0, .slice q1 x.xUsed.length d1, .int .i64 (inSt x o n), .slice (some ⟨gH, 0, none⟩) x.xHeard.length d2, .int .i64 x.xCheat.xWho, .int .i64 x.xCheat.xAt, .int .i64 x.xCheat.xBy, .bool x.xCheat.xCry, .bool x.xQuarrel.xSome, .int .i64 x.xQuarrel.xFrom, .int .i64 x.xQuarrel.xCheck, .int .i64 x.xQuarrel.xTo, .int .i64 x.xQuarrel.xTold, .int .i64 x.xQuarrel.xHeard, .int .i64 x.xQuarrel.xOther, .int .i64 x.xQuarrel.xVowed] ∧ Blk wr w.heap.size 36 #[.int .i64 0, .slice none 0 0] ∧ Blk wr (w.heap.size + 1) 2 (agC (inP x o 4)) ∧ Mat wr (.slice q0 x.xTape.length d0) x.xTape bt ∧ Ints wr (.slice q1 x.xUsed.length d1) (inU x.xUsed o 4) b1 ∧ MatT wr (.slice (some ⟨gH, 0, none⟩) x.xHeard.length d2) (inHd x o left n) cs ∧ (∀ y ∈ cs, y ∈ b2 ∨ w.heap.size + 1 < y) ∧ Dj bs cs ∧ Off (b0 :: (b1 ++ b2)) w wr) (fun _ c _ => 4 - (intOf c).toNat)
      case atStart => exact ⟨0, [wr.heap.size], b2, Nat.zero_le _, rfl, I0, by simp; omega, Z, R0, P0, T, U, H, HCS0, HD0, O2⟩
      case round =>
        clear I0 Z R0 P0 T U H HCS0 HD0 O2 plr
        obtain ⟨n, bs, cs, hn, rfl, I, hbs, Z, R0, P0, T, U, H, hcs, hdj, O2⟩ := hrel
        have hlen := inH_len x o left n
        obtain ⟨po, co, rfl⟩ := Own.value I
        by_cases hlt : n < 4
        · have hi : (n : Int) < 4 := by omega
          by_cases h1 : n = o
          · have HH : Hid _ := in2_out (x := x) (left := left) h1
            have e1 : ((n : Int) != (o : Int)) = false := by simpa using (show (n : Int) = (o : Int) by omega)
            clear h1
            go_wp2
            go_roundw
            case rel => exact ⟨n + 1, bs, cs, by omega, by go_num, by rw [HH.out.2.2]; exact I, hbs, by rw [HH.out.1]; exact Z, R0, P0, T, U, by rw [HH.out.2.1]; exact H, hcs, hdj, O2⟩
            case measure => simp [intOf]; omega
          · have HH : Hid _ := in2_in (x := x) (left := left) h1
            have e1 : ((n : Int) != (o : Int)) = true := by simpa using (show ¬ (n : Int) = (o : Int) by omega)
            have hsb := inSt_bd x o n
            have nb : b0 ∉ cs := fun h => by rcases hcs b0 h with h | h; (exact n2 h); omega
            have hrow : ((inHd x o left n).getD n []).length ≤ 1000000000 := by rw [inHd_ge x o left n n (Nat.le_refl _)]; have := HRW.out n; omega
            have hli : (n : Int) < (x.xHeard.length : Int) := by rw [HT4.out.2.2]; omega
            have hln : n < (inHd x o left n).length := by rw [inHd_len, HT4.out.2.2]; exact hlt
            have KT := spec_l4Tell2 b0 x q0 q1 (some ⟨gH, 0, none⟩) x.xTape.length x.xUsed.length x.xHeard.length d0 d1 d2 (inSt x o n) 256 o left wr Z (by omega) (.inr rfl) (by omega) hy
            rw [show tellV x.xCheat 256 (inSt x o n) o left = inT x o left n from rfl] at KT
            generalize inT x o left n = u at *
            clear h1
            go_wp2_with fail
            refine KT.mono ?_
            rintro e w6 ⟨rfl, Z6, o6⟩
            have ltI : ∀ y ∈ bs, y < w6.heap.size := fun y hy => Nat.lt_of_lt_of_le (Own.lt I y hy) o6.size
            have I6 := Own.off I o6 (fun g hg h => by have := hbs g hg; simp at h; omega)
            have R6 := R0.off o6 (by simp; omega)
            have P6 := P0.off o6 (by simp; omega)
            have T6 := T.off o6 (fun g hg h => by simp at h; exact n0 (h ▸ hg))
            have U6 := U.off o6 (fun g hg h => by simp at h; exact n1 (h ▸ hg))
            have H6 := H.off o6 (fun g hg h => by simp at h; exact nb (h ▸ hg))
            have O6 := O2.trans (o6.mono (fun y hy => by simp at hy; simp [hy]))
            have zw := O6.size
            have zp := P6.lt
            clear Z R0 P0 T U H O2 I o6 KT
            go_wp2_with fail
            obtain ⟨vr, btt, It, ct, ft, nHt, gin, bin, AFTER⟩ := H6.grow n hln
            have nzt : b0 ∉ btt := fun h => nb (bin _ h)
            have ltH : gH < w6.heap.size := H6.lt _ gin
            have nzH : b0 ≠ gH := fun h => nb (by rw [h]; exact gin)
            obtain ⟨pr, cr, rfl⟩ := Own.value It
            have AFTERH := (show Hid _ from AFTER)
            clear AFTER
            generalize hrw : (inHd x o left n).getD n [] = row at *
            have hrl : row.length ≤ 1000000000 := hrow
            refine wp_region_held (S := fun V => (∀ k9, V.cell? ⟨b0, k9, none⟩ = (#[.int .i64 0, .slice none 0 0, .slice q0 x.xTape.length d0, .slice q1 x.xUsed.length d1, .int .i64 (inSt x o n + 1), .slice (some ⟨gH, 0, none⟩) x.xHeard.length d2, .int .i64 x.xCheat.xWho, .int .i64 x.xCheat.xAt, .int .i64 x.xCheat.xBy, .bool x.xCheat.xCry, .bool x.xQuarrel.xSome, .int .i64 x.xQuarrel.xFrom, .int .i64 x.xQuarrel.xCheck, .int .i64 x.xQuarrel.xTo, .int .i64 x.xQuarrel.xTold, .int .i64 x.xQuarrel.xHeard, .int .i64 x.xQuarrel.xOther, .int .i64 x.xQuarrel.xVowed] : Array Value)[k9]?)) (by kernel_rfl) ?_
            try (change wpAnyH _ _ _ _ _ _ _ _ (World.drew _))
            have Zd : Blk w6.drew b0 56 #[.int .i64 0, .slice none 0 0, .slice q0 x.xTape.length d0, .slice q1 x.xUsed.length d1, .int .i64 (inSt x o n + 1), .slice (some ⟨gH, 0, none⟩) x.xHeard.length d2, .int .i64 x.xCheat.xWho, .int .i64 x.xCheat.xAt, .int .i64 x.xCheat.xBy, .bool x.xCheat.xCry, .bool x.xQuarrel.xSome, .int .i64 x.xQuarrel.xFrom, .int .i64 x.xQuarrel.xCheck, .int .i64 x.xQuarrel.xTo, .int .i64 x.xQuarrel.xTold, .int .i64 x.xQuarrel.xHeard, .int .i64 x.xQuarrel.xOther, .int .i64 x.xQuarrel.xVowed] := Z6.drew
            have hS : (∀ k9, w6.drew.cell? ⟨b0, k9, none⟩ = (#[.int .i64 0, .slice none 0 0, .slice q0 x.xTape.length d0, .slice q1 x.xUsed.length d1, .int .i64 (inSt x o n + 1), .slice (some ⟨gH, 0, none⟩) x.xHeard.length d2, .int .i64 x.xCheat.xWho, .int .i64 x.xCheat.xAt, .int .i64 x.xCheat.xBy, .bool x.xCheat.xCry, .bool x.xQuarrel.xSome, .int .i64 x.xQuarrel.xFrom, .int .i64 x.xQuarrel.xCheck, .int .i64 x.xQuarrel.xTo, .int .i64 x.xQuarrel.xTold, .int .i64 x.xQuarrel.xHeard, .int .i64 x.xQuarrel.xOther, .int .i64 x.xQuarrel.xVowed] : Array Value)[k9]?) := Zd.at.1
            have Itd : IntsT w6.drew (.slice pr row.length cr) row btt := It.keep (Below.refl _ _).drew
            have ctd : w6.drew.cell? ⟨gH, n, none⟩ = some (.slice pr row.length cr) := ct
            refine wpAnyH_take (i := 0) (v := .pointer (some ⟨b0, 2, none⟩)) rfl (by kernel_rfl) (by kernel_rfl) (by kernel_rfl) (fun _ _ _ h => h) (Or.inl ⟨by rfl, ?_⟩) hS ?_
            · intro w' hSw
              go_simp
            (try simp only [List.getElem_toArray]); (try simp only [List.getElem_cons_succ]); (try simp only [List.getElem_cons_zero]); (try simp only [Act.put]); (try simp only [List.setIfInBounds_toArray]); (try simp only [List.set_cons_succ]); (try simp only [List.set_cons_zero])
            refine wpAnyH_take (i := 1) (v := .pointer (some ⟨b0, 2, none⟩)) rfl (by kernel_rfl) (by kernel_rfl) (by kernel_rfl) (fun _ _ _ h => h) (Or.inl ⟨by rfl, ?_⟩) hS ?_
            · intro w' hSw
              go_simp
            (try simp only [List.getElem_toArray]); (try simp only [List.getElem_cons_succ]); (try simp only [List.getElem_cons_zero]); (try simp only [Act.put]); (try simp only [List.setIfInBounds_toArray]); (try simp only [List.set_cons_succ]); (try simp only [List.set_cons_zero])
            refine wpAnyH_take (i := 2) (v := .pointer (some ⟨b0, 5, none⟩)) rfl (by kernel_rfl) (by kernel_rfl) (by kernel_rfl) (fun _ _ _ h => h) (Or.inl ⟨by rfl, ?_⟩) hS ?_
            · intro w' hSw
              go_simp
            (try simp only [List.getElem_toArray]); (try simp only [List.getElem_cons_succ]); (try simp only [List.getElem_cons_zero]); (try simp only [Act.put]); (try simp only [List.setIfInBounds_toArray]); (try simp only [List.set_cons_succ]); (try simp only [List.set_cons_zero])
            refine wpAnyH_take (i := 3) (v := .slice (some ⟨gH, 0, none⟩) x.xHeard.length d2) rfl (by kernel_rfl) (by kernel_rfl) (by kernel_rfl) (fun _ _ _ h => h) (Or.inl ⟨by rfl, ?_⟩) hS ?_
            · intro w' hSw
              go_simp
            (try simp only [List.getElem_toArray]); (try simp only [List.getElem_cons_succ]); (try simp only [List.getElem_cons_zero]); (try simp only [Act.put]); (try simp only [List.setIfInBounds_toArray]); (try simp only [List.set_cons_succ]); (try simp only [List.set_cons_zero])
            refine wpAnyH_take (i := 4) (v := .int .i64 n) rfl (by kernel_rfl) (by kernel_rfl) (by kernel_rfl) (fun _ _ _ h => h) (Or.inl ⟨by rfl, ?_⟩) hS ?_
            · intro w' hSw
              go_simp
            (try simp only [List.getElem_toArray]); (try simp only [List.getElem_cons_succ]); (try simp only [List.getElem_cons_zero]); (try simp only [Act.put]); (try simp only [List.setIfInBounds_toArray]); (try simp only [List.set_cons_succ]); (try simp only [List.set_cons_zero])
            refine wpAnyH_take (i := 5) (v := .pointer (some ⟨b0, 2, none⟩)) rfl (by kernel_rfl) (by kernel_rfl) (by kernel_rfl) (fun _ _ _ h => h) (Or.inl ⟨by rfl, ?_⟩) hS ?_
            · intro w' hSw
              go_simp
            (try simp only [List.getElem_toArray]); (try simp only [List.getElem_cons_succ]); (try simp only [List.getElem_cons_zero]); (try simp only [Act.put]); (try simp only [List.setIfInBounds_toArray]); (try simp only [List.set_cons_succ]); (try simp only [List.set_cons_zero])
            refine wpAnyH_take (i := 6) (v := .pointer (some ⟨b0, 2, none⟩)) rfl (by kernel_rfl) (by kernel_rfl) (by kernel_rfl) (fun _ _ _ h => h) (Or.inl ⟨by rfl, ?_⟩) hS ?_
            · intro w' hSw
              go_simp
            (try simp only [List.getElem_toArray]); (try simp only [List.getElem_cons_succ]); (try simp only [List.getElem_cons_zero]); (try simp only [Act.put]); (try simp only [List.setIfInBounds_toArray]); (try simp only [List.set_cons_succ]); (try simp only [List.set_cons_zero])
            refine wpAnyH_take (i := 7) (v := .pointer (some ⟨b0, 5, none⟩)) rfl (by kernel_rfl) (by kernel_rfl) (by kernel_rfl) (fun _ _ _ h => h) (Or.inl ⟨by rfl, ?_⟩) hS ?_
            · intro w' hSw
              go_simp
            (try simp only [List.getElem_toArray]); (try simp only [List.getElem_cons_succ]); (try simp only [List.getElem_cons_zero]); (try simp only [Act.put]); (try simp only [List.setIfInBounds_toArray]); (try simp only [List.set_cons_succ]); (try simp only [List.set_cons_zero])
            refine wpAnyH_take (i := 8) (v := .slice (some ⟨gH, 0, none⟩) x.xHeard.length d2) rfl (by kernel_rfl) (by kernel_rfl) (by kernel_rfl) (fun _ _ _ h => h) (Or.inl ⟨by rfl, ?_⟩) hS ?_
            · intro w' hSw
              go_simp
            (try simp only [List.getElem_toArray]); (try simp only [List.getElem_cons_succ]); (try simp only [List.getElem_cons_zero]); (try simp only [Act.put]); (try simp only [List.setIfInBounds_toArray]); (try simp only [List.set_cons_succ]); (try simp only [List.set_cons_zero])
            refine wpAnyH_take (i := 9) (v := .int .i64 n) rfl (by kernel_rfl) (by kernel_rfl) (by kernel_rfl) (fun _ _ _ h => h) (Or.inl ⟨by rfl, ?_⟩) hS ?_
            · intro w' hSw
              go_simp
            (try simp only [List.getElem_toArray]); (try simp only [List.getElem_cons_succ]); (try simp only [List.getElem_cons_zero]); (try simp only [Act.put]); (try simp only [List.setIfInBounds_toArray]); (try simp only [List.set_cons_succ]); (try simp only [List.set_cons_zero])
            refine wpAnyH_take (i := 10) (v := .pointer (some ⟨gH, n, none⟩)) rfl (by kernel_rfl) (by kernel_rfl) (by kernel_rfl) (fun _ _ _ h => h) (Or.inl ⟨by rfl, ?_⟩) hS ?_
            · intro w' hSw
              go_simp
            (try simp only [List.getElem_toArray]); (try simp only [List.getElem_cons_succ]); (try simp only [List.getElem_cons_zero]); (try simp only [Act.put]); (try simp only [List.setIfInBounds_toArray]); (try simp only [List.set_cons_succ]); (try simp only [List.set_cons_zero])
            refine wpAnyH_take (i := 12) (v := .int .i64 u) rfl (by kernel_rfl) (by kernel_rfl) (by kernel_rfl) (fun _ _ _ h => h) (Or.inl ⟨by rfl, ?_⟩) hS ?_
            · intro w' hSw
              go_simp
            (try simp only [List.getElem_toArray]); (try simp only [List.getElem_cons_succ]); (try simp only [List.getElem_cons_zero]); (try simp only [Act.put]); (try simp only [List.setIfInBounds_toArray]); (try simp only [List.set_cons_succ]); (try simp only [List.set_cons_zero])
            refine wpAnyH_ready (rs := [11, 13]) (by kernel_rfl) (by simp) ?_
            refine AllReadyH.cons (o := _) rfl (fun K hK => ?_) (AllReadyH.cons (o := _) rfl (fun K hK => ?_) AllReadyH.nil)
            · rw [if_pos (by rfl)]
              go_simp
              refine hK.out _ _ hS (fun hS => ?_)
              clear hK K
              (try simp only [List.getElem_toArray]); (try simp only [List.getElem_cons_succ]); (try simp only [List.getElem_cons_zero]); (try simp only [Act.put]); (try simp only [List.setIfInBounds_toArray]); (try simp only [List.set_cons_succ]); (try simp only [List.set_cons_zero])
              refine wpAnyH_ready (rs := [13]) (by kernel_rfl) (by simp) ?_
              refine AllReadyH.cons (o := _) rfl (fun K hK => ?_) AllReadyH.nil
              rw [if_pos (by rfl)]
              go_simp
              refine hK.out _ _ (Zd.alloc (.cells #[.int .i64 u] 2)).at.1 (fun hS => ?_)
              clear hK K
              (try simp only [List.getElem_toArray]); (try simp only [List.getElem_cons_succ]); (try simp only [List.getElem_cons_zero]); (try simp only [Act.put]); (try simp only [List.setIfInBounds_toArray]); (try simp only [List.set_cons_succ]); (try simp only [List.set_cons_zero])
              refine wpAnyH_ready (rs := [14]) (by kernel_rfl) (by simp) ?_
              refine AllReadyH.cons (o := _) rfl (fun K hK => ?_) AllReadyH.nil
              refine step_append_Own rfl (.tmp 59) (.tmp 61) 25 rfl 2 i1 (.int .i64 0) 1 8 Tryz.underlying25 gi gz0 gz1 gz2 rfl (by decide) (.slice pr row.length cr) row.length (row.map (Value.int .i64)) btt rfl (Own.alloc Itd _) ⟨w6.heap.size, 0, none⟩ 1 1 [.int .i64 u] rfl rfl (one_new (Blk.new w6.drew 2 #[.int .i64 u])) (by intro y hy; simp at hy; subst hy; rfl) (by omega) (by unfold maxLen; omega) (by omega) ?_
              intro g cap w7 hO7 hF7 hg7
              have Z7 := (Zd.alloc (.cells #[.int .i64 u] 2)).off hF7 nzt
              have ltH2 : gH < (w6.drew.alloc (.cells #[.int .i64 u] 2)).heap.size := by simp; exact Nat.lt_succ_of_lt ltH
              have c7 : w7.cell? ⟨gH, n, none⟩ = some (.slice pr row.length cr) := ((hF7.at gH ltH2 nHt).1 n).trans ((((Below.refl w6.drew.heap.size w6.drew).alloc (Nat.le_refl _) (.cells #[.int .i64 u] 2)).cell (p := ⟨gH, n, none⟩) ltH).trans ctd)
              have f7 : w7.frozen? ⟨gH, n, none⟩ = false := ((hF7.at gH ltH2 nHt).2 n).trans ((((Below.refl w6.drew.heap.size w6.drew).alloc (Nat.le_refl _) (.cells #[.int .i64 u] 2)).frozen (p := ⟨gH, n, none⟩) ltH).trans ft)
              refine hK.out _ _ Z7.at.1 (fun hS => ?_)
              clear hK K
              (try simp only [List.getElem_toArray]); (try simp only [List.getElem_cons_succ]); (try simp only [List.getElem_cons_zero]); (try simp only [Act.put]); (try simp only [List.setIfInBounds_toArray]); (try simp only [List.set_cons_succ]); (try simp only [List.set_cons_zero])
              refine wpAnyH_take (i := 15) (v := .pointer (some ⟨gH, n, none⟩)) rfl (by kernel_rfl) (by kernel_rfl) (by kernel_rfl) (fun _ _ _ h => h) (Or.inl ⟨by rfl, ?_⟩) hS ?_
              · intro w' hSw
                go_simp
              (try simp only [List.getElem_toArray]); (try simp only [List.getElem_cons_succ]); (try simp only [List.getElem_cons_zero]); (try simp only [Act.put]); (try simp only [List.setIfInBounds_toArray]); (try simp only [List.set_cons_succ]); (try simp only [List.set_cons_zero])
              refine wpAnyH_ready (rs := [16]) (by kernel_rfl) (by simp) ?_
              refine AllReadyH.cons (o := _) rfl (fun K hK => ?_) AllReadyH.nil
              rw [if_pos (by rfl)]
              go_simp
              have oF : Off btt w6 w7 := (((Off.refl btt w6).drew).alloc (.cells #[.int .i64 u] 2)).trans hF7
              have Z8 := Z7.setOther ⟨gH, n, none⟩ (.slice (some ⟨g, 0, none⟩) (row.length + 1) cap) (by simp; omega)
              refine hK.out _ _ Z8.at.1 (fun hS => ?_)
              clear hK K
              refine wpAnyH_done (by kernel_rfl) ?_ _
              obtain ⟨cs3, H8, hcs8⟩ := AFTERH.out w7 (.slice (some ⟨g, 0, none⟩) (row.length + 1) cap) (row ++ [u]) g oF (by unfold IntsT; simpa using hO7) (hg7.imp id (fun h => by (try simp at h); omega))
              have hcs3 : ∀ y ∈ cs3, y ∈ cs ∨ w6.heap.size ≤ y := fun y hy => (hcs8 y hy).elim .inl (fun e => by rw [e]; exact hg7.elim (fun h => .inl (bin g (by rw [h]; simp))) (fun h => .inr (by (try simp at h); omega)))
              have o3 : Off cs w6 (w7.setCell ⟨gH, n, none⟩ (.slice (some ⟨g, 0, none⟩) (row.length + 1) cap)) := (oF.mono bin).setCell _ _ (.inl gin)
              subst hrw
              have R3 := R6.off o3 (fun h => by rcases hcs _ h with h | h; (have := lt2 _ h; omega); omega)
              have P3 := P6.off o3 (fun h => by rcases hcs _ h with h | h; (have := lt2 _ h; omega); omega)
              have T3 := T6.off o3 (fun g hg h => by rcases hcs _ h with h | h; (exact e02 g hg h); (have := ltt g hg; omega))
              have U3 := U6.off o3 (fun g hg h => by rcases hcs _ h with h | h; (exact e12 g hg h); (have := lt1 g hg; omega))
              have I3 := Own.off I6 o3 hdj
              have O3 := O6.past3 o3 (fun z hz => by rcases hcs _ hz with h | h; (exact .inl (by simp [h])); (exact .inr (by omega)))
              have hcs4 : ∀ y ∈ cs3, y ∈ b2 ∨ w.heap.size + 1 < y := fun y hy => by rcases hcs3 y hy with h | h; (exact hcs y h); (exact .inr (by omega))
              have hdj3 : Dj bs cs3 := fun g hg h => by rcases hcs3 g h with h | h; (exact hdj g hg h); (have := ltI g hg; omega)
              have z3 := o3.size
              generalize w7.setCell ⟨gH, n, none⟩ (.slice (some ⟨g, 0, none⟩) (((inHd x o left n).getD n []).length + 1) cap) = w8 at *
              clear R6 P6 T6 U6 H6 O6 I6 o3 hcs3 hdj hcs nb Z6 Zd Itd ctd ct It AFTERH oF hO7 hF7 hg7 Z7 c7 f7 hS hcs8 ft
              have hI1 : Own w8 2 1 (.slice po (inH x o left n).length co) (inH x o left n).length ((inH x o left n).map (Value.int .i64)) bs := I3
              clear I3
              generalize hxs : inH x o left n = xs at *
              clear hxs
              go_wp2_with (at_builtin; refine wpList_append_Own rfl _ _ 25 rfl 2 i1 (.int .i64 0) 1 8 Tryz.underlying25 gi gz0 gz1 gz2 rfl (by decide) _ _ _ bs rfl (Own.alloc hI1 _) ⟨w8.heap.size, 0, none⟩ 1 1 [.int .i64 u] rfl rfl ?c1 ?c2 ?c3 ?c4 ?c5 ?_)
              case c1 => exact one_new (Blk.new _ _ _)
              case c2 => intro u hu; simp at hu; subst hu; rfl
              case c3 => omega
              case c4 => unfold maxLen; omega
              case c5 => omega
              intro g9 cap9 w9 hO4 hoff hg4
              have hA : Below w8.heap.size w8 (w8.alloc (.cells #[.int .i64 u] 2)) := (Below.refl _ _).alloc (Nat.le_refl _) _
              have I4 : IntsT w9 (.slice (some ⟨g9, 0, none⟩) (xs.length + 1) cap9) (inH x o left (n + 1)) [g9] := by unfold IntsT; rw [HH.out.2.2, List.map_append, List.length_append]; exact hO4
              have hb4 : ∀ y ∈ [g9], w.heap.size + 1 < y := by intro y hy; simp at hy; subst hy; rcases hg4 with h | h; (exact hbs _ (by rw [h]; simp)); ((try simp at h); omega)
              have hdj4 : Dj [g9] cs3 := by intro y hy hm; simp at hy; subst hy; rcases hg4 with h | h; (exact hdj3 _ (by rw [h]; simp) hm); (have := H8.lt _ hm; (try simp at h); omega)
              have Z4 := (Z8.keep hA).off hoff (fun h => by have := hbs _ h; omega)
              have R4 := (R3.keep hA).off hoff (fun h => by have := hbs _ h; omega)
              have P4 := (P3.keep hA).off hoff (fun h => by have := hbs _ h; omega)
              have T4 := (T3.keep hA).off hoff (fun y hy h => by have := hbs _ h; have := ltt y hy; omega)
              have U4 := (U3.keep hA).off hoff (fun y hy h => by have := hbs _ h; have := lt1 y hy; omega)
              have H4 := (H8.keep hA).off hoff hdj3.symm
              have O4 := (O3.trans (Off.ofBelow hA)).past3 hoff (fun z hz => .inr (by have := hbs _ hz; omega))
              clear hO4 hoff hI1 Z8 R3 P3 T3 U3 H8 O3 hA hdj3 hg4 hbs
              go_wp2
              go_roundw
              case rel => exact ⟨n + 1, [g9], cs3, by omega, by go_num, I4, hb4, by rw [HH.out.1]; exact Z4, R4, P4, T4, U4, by rw [HH.out.2.1]; exact H4, hcs4, hdj4, O4⟩
              case measure => simp [intOf]; omega
            · rw [if_pos (by rfl)]
              go_simp
              refine hK.out _ _ (Zd.alloc (.cells #[.int .i64 u] 2)).at.1 (fun hS => ?_)
              clear hK K
              (try simp only [List.getElem_toArray]); (try simp only [List.getElem_cons_succ]); (try simp only [List.getElem_cons_zero]); (try simp only [Act.put]); (try simp only [List.setIfInBounds_toArray]); (try simp only [List.set_cons_succ]); (try simp only [List.set_cons_zero])
              have cta : (w6.drew.alloc (.cells #[.int .i64 u] 2)).cell? ⟨gH, n, none⟩ = some (.slice pr row.length cr) := (((Below.refl w6.drew.heap.size w6.drew).alloc (Nat.le_refl _) (.cells #[.int .i64 u] 2)).cell (p := ⟨gH, n, none⟩) ltH).trans ctd
              refine wpAnyH_ready (rs := [11]) (by kernel_rfl) (by simp) ?_
              refine AllReadyH.cons (o := _) rfl (fun K hK => ?_) AllReadyH.nil
              rw [if_pos (by rfl)]
              go_simp
              refine hK.out _ _ hS (fun hS => ?_)
              clear hK K
              (try simp only [List.getElem_toArray]); (try simp only [List.getElem_cons_succ]); (try simp only [List.getElem_cons_zero]); (try simp only [Act.put]); (try simp only [List.setIfInBounds_toArray]); (try simp only [List.set_cons_succ]); (try simp only [List.set_cons_zero])
              refine wpAnyH_ready (rs := [14]) (by kernel_rfl) (by simp) ?_
              refine AllReadyH.cons (o := _) rfl (fun K hK => ?_) AllReadyH.nil
              refine step_append_Own rfl (.tmp 59) (.tmp 61) 25 rfl 2 i1 (.int .i64 0) 1 8 Tryz.underlying25 gi gz0 gz1 gz2 rfl (by decide) (.slice pr row.length cr) row.length (row.map (Value.int .i64)) btt rfl (Own.alloc Itd _) ⟨w6.heap.size, 0, none⟩ 1 1 [.int .i64 u] rfl rfl (one_new (Blk.new w6.drew 2 #[.int .i64 u])) (by intro y hy; simp at hy; subst hy; rfl) (by omega) (by unfold maxLen; omega) (by omega) ?_
              intro g cap w7 hO7 hF7 hg7
              have Z7 := (Zd.alloc (.cells #[.int .i64 u] 2)).off hF7 nzt
              have ltH2 : gH < (w6.drew.alloc (.cells #[.int .i64 u] 2)).heap.size := by simp; exact Nat.lt_succ_of_lt ltH
              have c7 : w7.cell? ⟨gH, n, none⟩ = some (.slice pr row.length cr) := ((hF7.at gH ltH2 nHt).1 n).trans ((((Below.refl w6.drew.heap.size w6.drew).alloc (Nat.le_refl _) (.cells #[.int .i64 u] 2)).cell (p := ⟨gH, n, none⟩) ltH).trans ctd)
              have f7 : w7.frozen? ⟨gH, n, none⟩ = false := ((hF7.at gH ltH2 nHt).2 n).trans ((((Below.refl w6.drew.heap.size w6.drew).alloc (Nat.le_refl _) (.cells #[.int .i64 u] 2)).frozen (p := ⟨gH, n, none⟩) ltH).trans ft)
              refine hK.out _ _ Z7.at.1 (fun hS => ?_)
              clear hK K
              (try simp only [List.getElem_toArray]); (try simp only [List.getElem_cons_succ]); (try simp only [List.getElem_cons_zero]); (try simp only [Act.put]); (try simp only [List.setIfInBounds_toArray]); (try simp only [List.set_cons_succ]); (try simp only [List.set_cons_zero])
              refine wpAnyH_take (i := 15) (v := .pointer (some ⟨gH, n, none⟩)) rfl (by kernel_rfl) (by kernel_rfl) (by kernel_rfl) (fun _ _ _ h => h) (Or.inl ⟨by rfl, ?_⟩) hS ?_
              · intro w' hSw
                go_simp
              (try simp only [List.getElem_toArray]); (try simp only [List.getElem_cons_succ]); (try simp only [List.getElem_cons_zero]); (try simp only [Act.put]); (try simp only [List.setIfInBounds_toArray]); (try simp only [List.set_cons_succ]); (try simp only [List.set_cons_zero])
              refine wpAnyH_ready (rs := [16]) (by kernel_rfl) (by simp) ?_
              refine AllReadyH.cons (o := _) rfl (fun K hK => ?_) AllReadyH.nil
              rw [if_pos (by rfl)]
              go_simp
              have oF : Off btt w6 w7 := (((Off.refl btt w6).drew).alloc (.cells #[.int .i64 u] 2)).trans hF7
              have Z8 := Z7.setOther ⟨gH, n, none⟩ (.slice (some ⟨g, 0, none⟩) (row.length + 1) cap) (by simp; omega)
              refine hK.out _ _ Z8.at.1 (fun hS => ?_)
              clear hK K
              refine wpAnyH_done (by kernel_rfl) ?_ _
              obtain ⟨cs3, H8, hcs8⟩ := AFTERH.out w7 (.slice (some ⟨g, 0, none⟩) (row.length + 1) cap) (row ++ [u]) g oF (by unfold IntsT; simpa using hO7) (hg7.imp id (fun h => by (try simp at h); omega))
              have hcs3 : ∀ y ∈ cs3, y ∈ cs ∨ w6.heap.size ≤ y := fun y hy => (hcs8 y hy).elim .inl (fun e => by rw [e]; exact hg7.elim (fun h => .inl (bin g (by rw [h]; simp))) (fun h => .inr (by (try simp at h); omega)))
              have o3 : Off cs w6 (w7.setCell ⟨gH, n, none⟩ (.slice (some ⟨g, 0, none⟩) (row.length + 1) cap)) := (oF.mono bin).setCell _ _ (.inl gin)
              subst hrw
              have R3 := R6.off o3 (fun h => by rcases hcs _ h with h | h; (have := lt2 _ h; omega); omega)
              have P3 := P6.off o3 (fun h => by rcases hcs _ h with h | h; (have := lt2 _ h; omega); omega)
              have T3 := T6.off o3 (fun g hg h => by rcases hcs _ h with h | h; (exact e02 g hg h); (have := ltt g hg; omega))
              have U3 := U6.off o3 (fun g hg h => by rcases hcs _ h with h | h; (exact e12 g hg h); (have := lt1 g hg; omega))
              have I3 := Own.off I6 o3 hdj
              have O3 := O6.past3 o3 (fun z hz => by rcases hcs _ hz with h | h; (exact .inl (by simp [h])); (exact .inr (by omega)))
              have hcs4 : ∀ y ∈ cs3, y ∈ b2 ∨ w.heap.size + 1 < y := fun y hy => by rcases hcs3 y hy with h | h; (exact hcs y h); (exact .inr (by omega))
              have hdj3 : Dj bs cs3 := fun g hg h => by rcases hcs3 g h with h | h; (exact hdj g hg h); (have := ltI g hg; omega)
              have z3 := o3.size
              generalize w7.setCell ⟨gH, n, none⟩ (.slice (some ⟨g, 0, none⟩) (((inHd x o left n).getD n []).length + 1) cap) = w8 at *
              clear R6 P6 T6 U6 H6 O6 I6 o3 hcs3 hdj hcs nb Z6 Zd Itd ctd ct It AFTERH oF hO7 hF7 hg7 Z7 c7 f7 hS hcs8 ft
              have hI1 : Own w8 2 1 (.slice po (inH x o left n).length co) (inH x o left n).length ((inH x o left n).map (Value.int .i64)) bs := I3
              clear I3
              generalize hxs : inH x o left n = xs at *
              clear hxs
              go_wp2_with (at_builtin; refine wpList_append_Own rfl _ _ 25 rfl 2 i1 (.int .i64 0) 1 8 Tryz.underlying25 gi gz0 gz1 gz2 rfl (by decide) _ _ _ bs rfl (Own.alloc hI1 _) ⟨w8.heap.size, 0, none⟩ 1 1 [.int .i64 u] rfl rfl ?c1 ?c2 ?c3 ?c4 ?c5 ?_)
              case c1 => exact one_new (Blk.new _ _ _)
              case c2 => intro u hu; simp at hu; subst hu; rfl
              case c3 => omega
              case c4 => unfold maxLen; omega
              case c5 => omega
              intro g9 cap9 w9 hO4 hoff hg4
              have hA : Below w8.heap.size w8 (w8.alloc (.cells #[.int .i64 u] 2)) := (Below.refl _ _).alloc (Nat.le_refl _) _
              have I4 : IntsT w9 (.slice (some ⟨g9, 0, none⟩) (xs.length + 1) cap9) (inH x o left (n + 1)) [g9] := by unfold IntsT; rw [HH.out.2.2, List.map_append, List.length_append]; exact hO4
              have hb4 : ∀ y ∈ [g9], w.heap.size + 1 < y := by intro y hy; simp at hy; subst hy; rcases hg4 with h | h; (exact hbs _ (by rw [h]; simp)); ((try simp at h); omega)
              have hdj4 : Dj [g9] cs3 := by intro y hy hm; simp at hy; subst hy; rcases hg4 with h | h; (exact hdj3 _ (by rw [h]; simp) hm); (have := H8.lt _ hm; (try simp at h); omega)
              have Z4 := (Z8.keep hA).off hoff (fun h => by have := hbs _ h; omega)
              have R4 := (R3.keep hA).off hoff (fun h => by have := hbs _ h; omega)
              have P4 := (P3.keep hA).off hoff (fun h => by have := hbs _ h; omega)
              have T4 := (T3.keep hA).off hoff (fun y hy h => by have := hbs _ h; have := ltt y hy; omega)
              have U4 := (U3.keep hA).off hoff (fun y hy h => by have := hbs _ h; have := lt1 y hy; omega)
              have H4 := (H8.keep hA).off hoff hdj3.symm
              have O4 := (O3.trans (Off.ofBelow hA)).past3 hoff (fun z hz => .inr (by have := hbs _ hz; omega))
              clear hO4 hoff hI1 Z8 R3 P3 T3 U3 H8 O3 hA hdj3 hg4 hbs
              go_wp2
              go_roundw
              case rel => exact ⟨n + 1, [g9], cs3, by omega, by go_num, I4, hb4, by rw [HH.out.1]; exact Z4, R4, P4, T4, U4, by rw [HH.out.2.1]; exact H4, hcs4, hdj4, O4⟩
              case measure => simp [intOf]; omega
        · obtain rfl : n = 4 := by omega
          rw [show ((4 : Nat) : Int) = 4 from rfl]
          have h3 := inH_three x left o ho
          have HV : Hid (0 ≤ (agreeR (inH x o left 4)).2 ∧ (agreeR (inH x o left 4)).2 < 256) := agreeR_bd (inH_bd hlb 4)
          have HAG := agree_inH (x := x) ho hlb
          generalize hxs : inH x o left 4 = xs at *
          have HXS : Hid (inH x o left 4 = xs) := hxs
          clear hxs
          obtain ⟨t0, t1, t2, rfl⟩ := three_of xs h3
          have K := fun V => (spec_l6Agree t0 t1 t2 V).mono (R' := fun e w' => e = .returned (.int .i64 (major [t0, t1, t2]).2) ∧ Below V.heap.size V w') (fun e w' h => ⟨h.1, h.2 ▸ Below.refl _ _⟩)
          rw [← HAG] at K
          generalize hav : (agreeR [t0, t1, t2]).2 = av at *
          have HAV : Hid ((agreeR [t0, t1, t2]).2 = av) := hav
          clear hav HAG
          obtain ⟨g3, cap3, hbs3, eg, -, -⟩ := Own.shape I (by simp)
          simp only [Value.slice.injEq, true_and] at eg
          obtain ⟨rfl, rfl⟩ := eg
          have c0 : wr.cell? ⟨g3, 0, none⟩ = some (.int .i64 t0) := by rw [Own.cell (hbs3 ▸ I) 0 (by simp)]; rfl
          have c1 : wr.cell? ⟨g3, 1, none⟩ = some (.int .i64 t1) := by rw [Own.cell (hbs3 ▸ I) 1 (by simp)]; rfl
          have c2 : wr.cell? ⟨g3, 2, none⟩ = some (.int .i64 t2) := by rw [Own.cell (hbs3 ▸ I) 2 (by simp)]; rfl
          have hgl := Own.lt I g3 (by rw [hbs3]; simp)
          have hg3 := hbs g3 (by rw [hbs3]; simp)
          have HS : Hid (∀ V, Below wr.heap.size wr V → V.cell? ⟨g3, 0, none⟩ = some (.int .i64 t0) ∧ V.cell? ⟨g3, 1, none⟩ = some (.int .i64 t1) ∧ V.cell? ⟨g3, 2, none⟩ = some (.int .i64 t2)) := fun V h => ⟨(h.cell (p := ⟨g3, 0, none⟩) hgl).trans c0, (h.cell (p := ⟨g3, 1, none⟩) hgl).trans c1, (h.cell (p := ⟨g3, 2, none⟩) hgl).trans c2⟩
          have HOF : Hid (∀ V W, Below wr.heap.size wr V → Off [w.heap.size + 1] V W → W.cell? ⟨g3, 0, none⟩ = some (.int .i64 t0) ∧ W.cell? ⟨g3, 1, none⟩ = some (.int .i64 t1) ∧ W.cell? ⟨g3, 2, none⟩ = some (.int .i64 t2)) := fun V W b f => ⟨((f.at g3 (Nat.lt_of_lt_of_le hgl b.size) (by simp; omega)).1 0).trans (HS.out V b).1, ((f.at g3 (Nat.lt_of_lt_of_le hgl b.size) (by simp; omega)).1 1).trans (HS.out V b).2.1, ((f.at g3 (Nat.lt_of_lt_of_le hgl b.size) (by simp; omega)).1 2).trans (HS.out V b).2.2⟩
          have HPO : Hid (((inP x o 4).set o av).length = 4) := by show _ = _; rw [List.length_set]; exact inP_len x o 4
          have HPL : Hid ((inP x o 4).length = 4) := inP_len x o 4
          have hio : (o : Int) < 4 := by omega
          have hio0 : (0 : Int) ≤ (o : Int) := by omega
          clear c0 c1 c2 I hlen hdj
          simp only [List.length_cons, List.length_nil]
          go_wp2_with fail
          have hS0 := HS.out wr.drew (Below.refl _ _).drew
          go_region_held3 (fun V => V.cell? ⟨g3, 0, none⟩ = some (.int .i64 t0) ∧ V.cell? ⟨g3, 1, none⟩ = some (.int .i64 t1) ∧ V.cell? ⟨g3, 2, none⟩ = some (.int .i64 t2)) (first | (have _k := tk1; first | exact HS.out _ B9 | exact HOF.out _ _ B9 ((Off.refl _ _).setCell _ _ (by simp))) | exact hS0) (first | (go_at_call 118; refine (K _).mono ?_; rintro e w9 ⟨rfl, hb9⟩; have B9 := (Below.refl wr.heap.size wr).drew.trans hb9; have P9 := P0.keep B9; have tk1 : Hid True := trivial; have pc : w9.cell? ⟨w.heap.size + 1, o, none⟩ = some (.int .i64 ((inP x o 4).getD o 0)) := (P9.at.1 o).trans (agC_get (by rw [HPL.out]; exact ho)); have pf := P9.at.2 o; have pl := P9.lt))
          have OP : Off [w.heap.size + 1] w9 (w9.setCell ⟨w.heap.size + 1, o, none⟩ (.int .i64 av)) := (Off.refl _ _).setCell _ _ (by simp)
          have P3 := P9.set o (.int .i64 av)
          rw [agC_set] at P3
          generalize hpe : (inP x o 4).set o av = ps at *
          have HPE : Hid ((inP x o 4).set o av = ps) := hpe
          clear hpe
          have Z3 := (Z.keep B9).off OP (by simp; omega)
          have R3 := (R0.keep B9).off OP (by simp)
          have zR : w.heap.size < (w9.setCell ⟨w.heap.size + 1, o, none⟩ (.int .i64 av)).heap.size := R3.lt
          have T3 := (T.keep B9).off OP (fun g hg hm => by have := ltt g hg; simp at hm; omega)
          have U3 := (U.keep B9).off OP (fun g hg hm => by have := lt1 g hg; simp at hm; omega)
          have H3 := (H.keep B9).off OP (fun g hg hm => by simp at hm; rcases hcs _ hg with h | h; (have := lt2 g h; omega); omega)
          have O3 : Off (b0 :: (b1 ++ b2)) w (w9.setCell ⟨w.heap.size + 1, o, none⟩ (.int .i64 av)) := (O2.trans (Off.ofBelow B9)).setCell _ _ (.inr (by simp))
          have zcs := H3.lt
          have zw := O3.size
          have I3 : Reads (w9.setCell ⟨w.heap.size + 1, o, none⟩ (.int .i64 av)) .i64 (.slice (some ⟨w.heap.size + 1, 0, none⟩) 4 4) ps := by
            have h : Own (w9.setCell ⟨w.heap.size + 1, o, none⟩ (.int .i64 av)) 2 1 (.slice (some ⟨w.heap.size + 1, 0, none⟩) 4 4) 4 (ps.map (Value.int .i64)) [w.heap.size + 1] := ⟨by simp [HPO.out], .inr ⟨w.heap.size + 1, 4, _, rfl, rfl, P3, by omega, by unfold maxLen; omega, by simp [agC, HPO.out], by rw [show (4 * 1 : Nat) = ps.length by rw [HPO.out]]; simp [agC]; exact List.take_of_length_le (by simp)⟩⟩
            have h2 : Own (w9.setCell ⟨w.heap.size + 1, o, none⟩ (.int .i64 av)) 2 1 (.slice (some ⟨w.heap.size + 1, 0, none⟩) 4 4) ps.length (ps.map (Value.int .i64)) [w.heap.size + 1] := by rw [HPO.out]; exact h
            exact Own.reads h2
          have KL := fun V h => spec_l3Of 256 (.slice (some ⟨w.heap.size + 1, 0, none⟩) 4 4) ps V h HPO.out
          have HSQ : Hid (Sq (mirRows ps)) := mirRows_sq HPO.out
          have hcs5 : ∀ y ∈ cs, y ∈ b2 ∨ w.heap.size ≤ y := fun y hy => (hcs y hy).imp id (fun h => by omega)
          clear Z R0 P0 T U H O2 P9 P3 OP pc pf pl B9
          go_wp2_with fail
          refine (KL _ I3).mono ?_
          rintro e w6 ⟨u, bm, rfl, ⟨p6, c6, rfl, M6⟩, hf6, hb6⟩
          replace Z3 := Z3.keep hb6
          replace R3 := R3.keep hb6
          replace T3 := T3.keep hb6
          replace U3 := U3.keep hb6
          replace H3 := H3.keep hb6
          replace O3 := O3.trans (Off.ofBelow hb6)
          dsimp only at M6
          rw [HSQ.out.1] at M6
          dsimp only
          rw [HSQ.out.1]
          clear hb6 KL I3
          have ra := R3.at.1
          have rb := R3.at.2
          have rl := R3.lt
          have OR : ∀ V, Off [w.heap.size] w6 V → ∃ p c bm cs, Ending.returned (.agg #[.int .i64 256, .slice p6 4 c6]) = .returned (.agg #[.int .i64 256, .slice p 4 c]) ∧ Mat V (.slice p 4 c) (mirRows ps) bm ∧ (∀ y ∈ bm, w.heap.size ≤ y) ∧ Dj bm cs ∧ Blk V b0 56 #[.int .i64 0, .slice none 0 0, .slice q0 x.xTape.length d0, .slice q1 x.xUsed.length d1, .int .i64 (inSt x o 4), .slice (some ⟨gH, 0, none⟩) x.xHeard.length d2, .int .i64 x.xCheat.xWho, .int .i64 x.xCheat.xAt, .int .i64 x.xCheat.xBy, .bool x.xCheat.xCry, .bool x.xQuarrel.xSome, .int .i64 x.xQuarrel.xFrom, .int .i64 x.xQuarrel.xCheck, .int .i64 x.xQuarrel.xTo, .int .i64 x.xQuarrel.xTold, .int .i64 x.xQuarrel.xHeard, .int .i64 x.xQuarrel.xOther, .int .i64 x.xQuarrel.xVowed] ∧ Mat V (.slice q0 x.xTape.length d0) x.xTape bt ∧ Ints V (.slice q1 x.xUsed.length d1) (inU x.xUsed o 4) b1 ∧ MatT V (.slice (some ⟨gH, 0, none⟩) x.xHeard.length d2) (inHd x o left 4) cs ∧ (∀ y ∈ cs, y ∈ b2 ∨ w.heap.size ≤ y) ∧ Off (b0 :: (b1 ++ b2)) w V := fun V o' => ⟨p6, c6, bm, cs, rfl, M6.off o' (fun y hy hm => by have := hf6 y hy; simp at hm; omega), fun y hy => by have := hf6 y hy; omega, fun y hy hm => by have := hf6 y hy; have := zcs y hm; omega, Z3.off o' (by simp; omega), T3.off o' (fun y hy hm => by have := ltt y hy; simp at hm; omega), U3.off o' (fun y hy hm => by have := lt1 y hy; simp at hm; omega), H3.off o' (fun y hy hm => by simp at hm; rcases hcs y hy with h | h; (have := lt2 y h; omega); omega), hcs5, O3.past3 o' (fun z hz => .inr (by simp at hz; omega))⟩
          clear Z3 T3 U3 H3 O3 M6
          go_wp2
          exact bodyPost_ret (v := .agg #[.int .i64 256, .slice p6 4 c6]) (by simp [results, Tryz.results92, go_sem, ra]) rfl (by rw [HLF.out, HXS.out, HAV.out, HPE.out]; exact OR _ (((Off.refl _ _).setCell _ _ (by simp)).setCell _ _ (by simp)))
end Go.Proofs.YtbmemdgeohnpnalGreat
