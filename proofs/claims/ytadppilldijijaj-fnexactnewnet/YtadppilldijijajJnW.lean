/-
  Contracts of chapter 4: words that are taken: in the program and in its model.
-/
import Derived.Test.YtadppilldijijajJnK
import Derived.Test.YtadppilldijijajWhole
namespace Go.Proofs.Ytadppilldijijaj
open Go.ChangeShapes Go.WideShapes Go.ChangeAt Go.RowKit
set_option linter.unusedVariables false

def zeroNet : MNet := ⟨[], [], 0, [], ⟨0, 0, 0, false⟩, ⟨false, 0, 0, 0, 0, 0, 0, 0⟩⟩
def badN (c : Int) : MNetResult := ⟨c, 0, zeroNet⟩
/-- what is answered with a code -/
theorem OwNetResult.bad (W : World) (c : Int) : OwNetResult W (.agg #[.int .i64 c, .int .i64 0, .slice none 0 0, .slice none 0 0, .int .i64 0, .slice none 0 0, .int .i64 0, .int .i64 0, .int .i64 0, .bool false, .bool false, .int .i64 0, .int .i64 0, .int .i64 0, .int .i64 0, .int .i64 0, .int .i64 0, .int .i64 0]) (badN c) [] [] [] :=
  ⟨none, 0, none, 0, none, 0, rfl, Mat.nil _, Ints.nil _, Mat.nil _, (fun _ h => by cases h), (fun _ h => by cases h), (fun _ h => by cases h)⟩
def OutNetR (w w' : World) (r : MNetResult) (e : Ending) : Prop := ∃ u b0 b1 b2, e = .returned u ∧ OwNetResult w' u r b0 b1 b2 ∧ (∀ y ∈ b0, w.heap.size ≤ y) ∧ (∀ y ∈ b1, w.heap.size ≤ y) ∧ (∀ y ∈ b2, w.heap.size ≤ y) ∧ Below w.heap.size w w'
theorem OutNetR.bad {w W : World} (c : Int) (h : Below w.heap.size w W) : OutNetR w W (badN c) (.returned (.agg #[.int .i64 c, .int .i64 0, .slice none 0 0, .slice none 0 0, .int .i64 0, .slice none 0 0, .int .i64 0, .int .i64 0, .int .i64 0, .bool false, .bool false, .int .i64 0, .int .i64 0, .int .i64 0, .int .i64 0, .int .i64 0, .int .i64 0, .int .i64 0])) :=
  ⟨_, [], [], [], rfl, OwNetResult.bad W c, by simp, by simp, by simp, h⟩
theorem spec_l4Bad (c : Int) (w : World) : Calls Try.prog 75 #[.int .i64 c] w fun e w' => e = .returned (.agg #[.int .i64 c, .int .i64 0, .slice none 0 0, .slice none 0 0, .int .i64 0, .slice none 0 0, .int .i64 0, .int .i64 0, .int .i64 0, .bool false, .bool false, .int .i64 0, .int .i64 0, .int .i64 0, .int .i64 0, .int .i64 0, .int .i64 0, .int .i64 0]) ∧ Below w.heap.size w w' := by
  have Y0 := Blk.new w 61 #[.int .i64 0, .int .i64 0, .slice none 0 0, .slice none 0 0, .int .i64 0, .slice none 0 0, .int .i64 0, .int .i64 0, .int .i64 0, .bool false, .bool false, .int .i64 0, .int .i64 0, .int .i64 0, .int .i64 0, .int .i64 0, .int .i64 0, .int .i64 0]
  go_enter Try.func75, Try.ntmps75
  go_wp2_with (refine wpList_store_blk rfl 61 _ _ rfl w.heap.size #[.int .i64 c, .int .i64 0, .slice none 0 0, .slice none 0 0, .int .i64 0, .slice none 0 0, .int .i64 0, .int .i64 0, .int .i64 0, .bool false, .bool false, .int .i64 0, .int .i64 0, .int .i64 0, .int .i64 0, .int .i64 0, .int .i64 0, .int .i64 0] rfl rfl Y0 rfl (by kernel_rfl) (by kernel_rfl) ?_; intro w1 Y1 O1)
  have B1 : Below w.heap.size w w1 := ((Below.refl _ _).alloc (Nat.le_refl _) _).trans (O1.toBelow (by simp) (by simp))
  exact bodyPost_ret (v := .agg #[.int .i64 c, .int .i64 0, .slice none 0 0, .slice none 0 0, .int .i64 0, .slice none 0 0, .int .i64 0, .int .i64 0, .int .i64 0, .bool false, .bool false, .int .i64 0, .int .i64 0, .int .i64 0, .int .i64 0, .int .i64 0, .int .i64 0, .int .i64 0]) (results_blk Try.results75 rfl Y1 Try.underlying61 rfl (by kernel_rfl)) rfl ⟨rfl, B1⟩
def used (x : MNet) (lane : Int) : Int := x.xUsed.getD lane.toNat 0
/-- a net of which one more word was taken -/
def tookN (x : MNet) (lane : Int) : MNet := { x with xUsed := x.xUsed.set lane.toNat (used x lane + 1) }
def takeR (x : MNet) (lane q : Int) : MNetResult := if netC x = 0 then (if (0 ≤ lane ∧ lane ≤ 3) ∧ (q = 2 ∨ q = 256) then ⟨0, word x.xTape lane (used x lane) % q, tookN x lane⟩ else badN 3) else badN (netC x)
theorem takeR_fault {x : MNet} (lane q : Int) (h : netC x ≠ 0) : takeR x lane q = badN (netC x) := if_neg h
theorem takeR_out {x : MNet} {lane q : Int} (h : netC x = 0) (k : ¬ ((0 ≤ lane ∧ lane ≤ 3) ∧ (q = 2 ∨ q = 256))) : takeR x lane q = badN 3 := by unfold takeR; rw [if_pos h, if_neg k]
theorem takeR_in {x : MNet} {lane q : Int} (h : netC x = 0) (k : (0 ≤ lane ∧ lane ≤ 3) ∧ (q = 2 ∨ q = 256)) : takeR x lane q = ⟨0, word x.xTape lane (used x lane) % q, tookN x lane⟩ := by unfold takeR; rw [if_pos h, if_pos k]
theorem used_ok {x : MNet} (h : netC x = 0) (l : Nat) (hl : l < 4) : 0 ≤ used x l ∧ used x l ≤ 99999 := by
  obtain ⟨_, hl4, hb, _⟩ := netC_zero h
  exact (okN_iff _).1 ((listsB_iff x).1 hb).1 l (by rw [hl4.1]; exact hl)
theorem word_ok {xss : List (List Int)} (h : tapeC xss = 0) (l m : Int) : 0 ≤ word xss l m ∧ word xss l m ≤ 255 := (rowC_zero (tapeC_row h _)).2 _
set_option maxHeartbeats 4000000 in
set_option maxRecDepth 100000 in
theorem spec_l4Take (b : Nat) (x : MNet) (q0 q1 q2 : Option Addr) (d0 d1 d2 : Nat) (b1 : List Nat) (l : Nat) (q : Int) (w : World) (hb : Blk w b 55 #[.slice q0 x.xTape.length d0, .slice q1 x.xUsed.length d1, .int .i64 x.xSent, .slice q2 x.xHeard.length d2, .int .i64 x.xCheat.xWho, .int .i64 x.xCheat.xAt, .int .i64 x.xCheat.xBy, .bool x.xCheat.xCry, .bool x.xQuarrel.xSome, .int .i64 x.xQuarrel.xFrom, .int .i64 x.xQuarrel.xCheck, .int .i64 x.xQuarrel.xTo, .int .i64 x.xQuarrel.xTold, .int .i64 x.xQuarrel.xHeard, .int .i64 x.xQuarrel.xOther, .int .i64 x.xQuarrel.xVowed]) (h0 : ReadsM w (.slice q0 x.xTape.length d0) x.xTape) (h1 : Ints w (.slice q1 x.xUsed.length d1) x.xUsed b1) (hl : l < x.xUsed.length) (ht : l < x.xTape.length) (hq : q = 2 ∨ q = 256) (hu : 0 ≤ used x l ∧ used x l ≤ 99999) (hw : 0 ≤ word x.xTape l (used x l)) (hnb : b ∉ b1) :
    Calls Try.prog 82 #[.pointer (some ⟨b, 0, none⟩), .int .i64 l, .int .i64 q] w fun e w' => e = .returned (.int .i64 (word x.xTape l (used x l) % q)) ∧ Ints w' (.slice q1 x.xUsed.length d1) (x.xUsed.set l (used x l + 1)) b1 ∧ Off b1 w w' := by
  obtain ⟨m, hm⟩ := Int.eq_ofNat_of_zero_le hu.1
  obtain ⟨te, hO⟩ := h1
  obtain ⟨g, cap, rfl, e1, hcap, _⟩ := Own.shape hO (by omega)
  simp only [Value.slice.injEq, true_and] at e1
  obtain ⟨rfl, rfl⟩ := e1
  have ca : w.cell? ⟨g, l, none⟩ = some (.int .i64 (used x l)) := by
    rw [Own.cell hO l (by omega)]
    simp [used, hl]
  have cf := Own.frozen hO l
  have K := fun V (h : V.cell? ⟨b, 0, none⟩ = some (.slice q0 x.xTape.length d0)) (h' : ReadsM V (.slice q0 x.xTape.length d0) x.xTape) => spec_l2Word_at b (.slice q0 x.xTape.length d0) x.xTape l m V h h' ht
  have hS0 : Ints (w.setCell ⟨g, l, none⟩ (.int .i64 (used x l + 1))) (.slice (some ⟨g, 0, none⟩) x.xUsed.length d1) (x.xUsed.set l (used x l + 1)) [g] := by
    have := Own.set hO l (.int .i64 (used x l + 1))
    refine ⟨te, ?_⟩
    rw [List.length_set]
    simpa [List.map_set] using this
  have HF : Hid (∀ V, Off [] (w.setCell ⟨g, l, none⟩ (.int .i64 (used x l + 1))) V → Ints V (.slice (some ⟨g, 0, none⟩) x.xUsed.length d1) (x.xUsed.set l (used x l + 1)) [g] ∧ Off [g] w V) := fun V hV => ⟨hS0.off hV (by simp), ((Off.refl _ _).setCell _ _ (by simp)).trans (hV.mono (by simp))⟩
  rw [← hm] at K
  have hg : b ≠ g := fun e => hnb (by simp [e])
  have xa := hb.at.1
  have hS : (∀ o, w.cell? ⟨b, o, none⟩ = (#[.slice q0 x.xTape.length d0, .slice (some ⟨g, 0, none⟩) x.xUsed.length d1, .int .i64 x.xSent, .slice q2 x.xHeard.length d2, .int .i64 x.xCheat.xWho, .int .i64 x.xCheat.xAt, .int .i64 x.xCheat.xBy, .bool x.xCheat.xCry, .bool x.xQuarrel.xSome, .int .i64 x.xQuarrel.xFrom, .int .i64 x.xQuarrel.xCheck, .int .i64 x.xQuarrel.xTo, .int .i64 x.xQuarrel.xTold, .int .i64 x.xQuarrel.xHeard, .int .i64 x.xQuarrel.xOther, .int .i64 x.xQuarrel.xVowed] : Array Value)[o]?) ∧ w.cell? ⟨g, l, none⟩ = some (.int .i64 (used x l)) := ⟨xa, ca⟩
  have hi : (l : Int) < (x.xUsed.length : Int) := by omega
  have HM : Hid (word x.xTape l (used x l) = word x.xTape l (used x l)) := rfl
  generalize used x l = u at *
  generalize hy : word x.xTape l u = y at *
  clear hO hS0 hb xa ca hm hy HM
  go_enter Try.func82, Try.ntmps82
  go_wp2_with fail
  go_region_held3 (fun V => (∀ o, V.cell? ⟨b, o, none⟩ = (#[.slice q0 x.xTape.length d0, .slice (some ⟨g, 0, none⟩) x.xUsed.length d1, .int .i64 x.xSent, .slice q2 x.xHeard.length d2, .int .i64 x.xCheat.xWho, .int .i64 x.xCheat.xAt, .int .i64 x.xCheat.xBy, .bool x.xCheat.xCry, .bool x.xQuarrel.xSome, .int .i64 x.xQuarrel.xFrom, .int .i64 x.xQuarrel.xCheck, .int .i64 x.xQuarrel.xTo, .int .i64 x.xQuarrel.xTold, .int .i64 x.xQuarrel.xHeard, .int .i64 x.xQuarrel.xOther, .int .i64 x.xQuarrel.xVowed] : Array Value)[o]?) ∧ V.cell? ⟨g, l, none⟩ = some (.int .i64 u)) (exact hS) (first | (go_at_call 110; refine (K _ (by exact hS.1 0) (by exact h0.below (Below.refl _ _).drew)).mono ?_; rintro e w9 ⟨rfl, rfl⟩))
  have xa := hS.1
  have ca := hS.2
  clear hS K h0
  rcases hq with rfl | rfl
  · go_wp2
    go_ret
    exact ⟨rfl, HF.out _ (Off.refl _ _).drew⟩
  · go_wp2
    go_ret
    exact ⟨rfl, HF.out _ (Off.refl _ _).drew⟩
set_option maxHeartbeats 4000000 in
set_option maxRecDepth 100000 in
theorem spec_TakeWord (v : Value) (x : MNet) (lane q : Int) (w : World) (hv : RdNet w v x) (hx : Fit x) :
    Calls Try.prog 37 #[v, .int .i64 lane, .int .i64 q] w fun e w' => OutNetR w w' (takeR x lane q) e := by
  obtain ⟨p0, c0, p1, c1, p2, c2, rfl, h0, h1, h2⟩ := hv
  have B0 : Below w.heap.size w ((w.alloc (.cells #[.slice p0 x.xTape.length c0, .slice p1 x.xUsed.length c1, .int .i64 x.xSent, .slice p2 x.xHeard.length c2, .int .i64 x.xCheat.xWho, .int .i64 x.xCheat.xAt, .int .i64 x.xCheat.xBy, .bool x.xCheat.xCry, .bool x.xQuarrel.xSome, .int .i64 x.xQuarrel.xFrom, .int .i64 x.xQuarrel.xCheck, .int .i64 x.xQuarrel.xTo, .int .i64 x.xQuarrel.xTold, .int .i64 x.xQuarrel.xHeard, .int .i64 x.xQuarrel.xOther, .int .i64 x.xQuarrel.xVowed] 55)).alloc (.cells #[.int .i64 0, .int .i64 0, .slice none 0 0, .slice none 0 0, .int .i64 0, .slice none 0 0, .int .i64 0, .int .i64 0, .int .i64 0, .bool false, .bool false, .int .i64 0, .int .i64 0, .int .i64 0, .int .i64 0, .int .i64 0, .int .i64 0, .int .i64 0] 61)) := (by repeat (first | exact Below.refl _ _ | refine Below.drew ?_ | refine below_drewN ?_ _ | refine Below.setCell ?_ (by first | omega | (simp; done) | (simp; omega)) _ | refine Below.alloc ?_ (by first | omega | (simp; done) | (simp; omega)) _))
  have X0 : Blk ((w.alloc (.cells #[.slice p0 x.xTape.length c0, .slice p1 x.xUsed.length c1, .int .i64 x.xSent, .slice p2 x.xHeard.length c2, .int .i64 x.xCheat.xWho, .int .i64 x.xCheat.xAt, .int .i64 x.xCheat.xBy, .bool x.xCheat.xCry, .bool x.xQuarrel.xSome, .int .i64 x.xQuarrel.xFrom, .int .i64 x.xQuarrel.xCheck, .int .i64 x.xQuarrel.xTo, .int .i64 x.xQuarrel.xTold, .int .i64 x.xQuarrel.xHeard, .int .i64 x.xQuarrel.xOther, .int .i64 x.xQuarrel.xVowed] 55)).alloc (.cells #[.int .i64 0, .int .i64 0, .slice none 0 0, .slice none 0 0, .int .i64 0, .slice none 0 0, .int .i64 0, .int .i64 0, .int .i64 0, .bool false, .bool false, .int .i64 0, .int .i64 0, .int .i64 0, .int .i64 0, .int .i64 0, .int .i64 0, .int .i64 0] 61)) w.heap.size 55 #[.slice p0 x.xTape.length c0, .slice p1 x.xUsed.length c1, .int .i64 x.xSent, .slice p2 x.xHeard.length c2, .int .i64 x.xCheat.xWho, .int .i64 x.xCheat.xAt, .int .i64 x.xCheat.xBy, .bool x.xCheat.xCry, .bool x.xQuarrel.xSome, .int .i64 x.xQuarrel.xFrom, .int .i64 x.xQuarrel.xCheck, .int .i64 x.xQuarrel.xTo, .int .i64 x.xQuarrel.xTold, .int .i64 x.xQuarrel.xHeard, .int .i64 x.xQuarrel.xOther, .int .i64 x.xQuarrel.xVowed] := (Blk.new w _ _).alloc _
  have Y0 : Blk ((w.alloc (.cells #[.slice p0 x.xTape.length c0, .slice p1 x.xUsed.length c1, .int .i64 x.xSent, .slice p2 x.xHeard.length c2, .int .i64 x.xCheat.xWho, .int .i64 x.xCheat.xAt, .int .i64 x.xCheat.xBy, .bool x.xCheat.xCry, .bool x.xQuarrel.xSome, .int .i64 x.xQuarrel.xFrom, .int .i64 x.xQuarrel.xCheck, .int .i64 x.xQuarrel.xTo, .int .i64 x.xQuarrel.xTold, .int .i64 x.xQuarrel.xHeard, .int .i64 x.xQuarrel.xOther, .int .i64 x.xQuarrel.xVowed] 55)).alloc (.cells #[.int .i64 0, .int .i64 0, .slice none 0 0, .slice none 0 0, .int .i64 0, .slice none 0 0, .int .i64 0, .int .i64 0, .int .i64 0, .bool false, .bool false, .int .i64 0, .int .i64 0, .int .i64 0, .int .i64 0, .int .i64 0, .int .i64 0, .int .i64 0] 61)) (w.heap.size + 1) 61 #[.int .i64 0, .int .i64 0, .slice none 0 0, .slice none 0 0, .int .i64 0, .slice none 0 0, .int .i64 0, .int .i64 0, .int .i64 0, .bool false, .bool false, .int .i64 0, .int .i64 0, .int .i64 0, .int .i64 0, .int .i64 0, .int .i64 0, .int .i64 0] := by simpa using Blk.new (w.alloc (.cells #[.slice p0 x.xTape.length c0, .slice p1 x.xUsed.length c1, .int .i64 x.xSent, .slice p2 x.xHeard.length c2, .int .i64 x.xCheat.xWho, .int .i64 x.xCheat.xAt, .int .i64 x.xCheat.xBy, .bool x.xCheat.xCry, .bool x.xQuarrel.xSome, .int .i64 x.xQuarrel.xFrom, .int .i64 x.xQuarrel.xCheck, .int .i64 x.xQuarrel.xTo, .int .i64 x.xQuarrel.xTold, .int .i64 x.xQuarrel.xHeard, .int .i64 x.xQuarrel.xOther, .int .i64 x.xQuarrel.xVowed] 55)) 61 #[.int .i64 0, .int .i64 0, .slice none 0 0, .slice none 0 0, .int .i64 0, .slice none 0 0, .int .i64 0, .int .i64 0, .int .i64 0, .bool false, .bool false, .int .i64 0, .int .i64 0, .int .i64 0, .int .i64 0, .int .i64 0, .int .i64 0, .int .i64 0]
  have sz0 : ((w.alloc (.cells #[.slice p0 x.xTape.length c0, .slice p1 x.xUsed.length c1, .int .i64 x.xSent, .slice p2 x.xHeard.length c2, .int .i64 x.xCheat.xWho, .int .i64 x.xCheat.xAt, .int .i64 x.xCheat.xBy, .bool x.xCheat.xCry, .bool x.xQuarrel.xSome, .int .i64 x.xQuarrel.xFrom, .int .i64 x.xQuarrel.xCheck, .int .i64 x.xQuarrel.xTo, .int .i64 x.xQuarrel.xTold, .int .i64 x.xQuarrel.xHeard, .int .i64 x.xQuarrel.xOther, .int .i64 x.xQuarrel.xVowed] 55)).alloc (.cells #[.int .i64 0, .int .i64 0, .slice none 0 0, .slice none 0 0, .int .i64 0, .slice none 0 0, .int .i64 0, .int .i64 0, .int .i64 0, .bool false, .bool false, .int .i64 0, .int .i64 0, .int .i64 0, .int .i64 0, .int .i64 0, .int .i64 0, .int .i64 0] 61)).heap.size = w.heap.size + 2 := by simp
  have K := spec_l4Fault _ x p0 p1 p2 c0 c1 c2 _ X0 (h0.below B0) (h1.below B0) (h2.below B0)
  by_cases k0 : netC x = 0
  · rw [k0] at K
    by_cases k1 : 0 ≤ lane ∧ lane ≤ 3
    · by_cases k2 : q = 2 ∨ q = 256
      · rw [takeR_in k0 ⟨k1, k2⟩]
        obtain ⟨l, rfl⟩ := Int.eq_ofNat_of_zero_le k1.1
        have hl : l < 4 := by omega
        obtain ⟨z0, z1, _, _⟩ := netC_zero k0
        have hu := used_ok k0 l hl
        have hw := (word_ok z0 l (used x l)).1
        have ht4 := tapeC_four z0
        have lt1 : l < x.xUsed.length := by omega
        have lt2 : l < x.xTape.length := by omega
        have HU : Hid (tookN x l = { x with xUsed := x.xUsed.set l (used x l + 1) }) := rfl
        have HL : Hid ((x.xUsed.set l (used x l + 1)).length = x.xUsed.length) := by show _ = _; rw [List.length_set]
        clear z0 z1 ht4 k0
        go_enter Try.func37, Try.ntmps37
        go_wp2_with fail
        refine K.mono ?_
        rintro e w' ⟨rfl, rfl⟩
        go_wp2_with fail
        refine (spec_l2Party_yes _ _ k1).mono ?_
        rintro e w' ⟨rfl, rfl⟩
        go_wp2_with fail
        refine (spec_l1Ring_yes _ _ k2).mono ?_
        rintro e w' ⟨rfl, rfl⟩
        go_wp2_with (refine wpList_load_blk rfl 55 _ rfl w.heap.size rfl X0 Try.underlying55 rfl (by kernel_rfl) ?_)
        refine (spec_l4Copy _ x _ ⟨p0, c0, p1, c1, p2, c2, rfl, h0.below B0, h1.below B0, h2.below B0⟩ hx).mono ?_
        rintro e w1 ⟨u, b0, b1, b2, rfl, N1, f0, f1, f2, hb1⟩
        obtain ⟨q0, d0, q1, d1, q2, d2, rfl, T1, U1, H1, j01, j02, j12⟩ := N1
        rw [sz0] at f0 f1 f2
        replace Y0 := Y0.keep hb1
        replace B0 : Below w.heap.size w w1 := B0.trans (hb1.mono B0.size)
        have sz1 := hb1.size
        rw [sz0] at sz1
        clear X0 hb1 sz0 K h0 h1 h2
        have Zn := Blk.new w1 55 #[.slice none 0 0, .slice none 0 0, .int .i64 0, .slice none 0 0, .int .i64 0, .int .i64 0, .int .i64 0, .bool false, .bool false, .int .i64 0, .int .i64 0, .int .i64 0, .int .i64 0, .int .i64 0, .int .i64 0, .int .i64 0]
        go_wp2_with (refine wpList_store_blk rfl 55 _ _ rfl w1.heap.size (#[.slice q0 x.xTape.length d0, .slice q1 x.xUsed.length d1, .int .i64 x.xSent, .slice q2 x.xHeard.length d2, .int .i64 x.xCheat.xWho, .int .i64 x.xCheat.xAt, .int .i64 x.xCheat.xBy, .bool x.xCheat.xCry, .bool x.xQuarrel.xSome, .int .i64 x.xQuarrel.xFrom, .int .i64 x.xQuarrel.xCheck, .int .i64 x.xQuarrel.xTo, .int .i64 x.xQuarrel.xTold, .int .i64 x.xQuarrel.xHeard, .int .i64 x.xQuarrel.xOther, .int .i64 x.xQuarrel.xVowed]) rfl rfl Zn rfl (by kernel_rfl) (by kernel_rfl) ?_; intro w2 Z2 O2)
        have O2' : ∀ y, y < w1.heap.size → y ∉ [w1.heap.size] := fun y hy hm => by simp at hm; omega
        have Y2 := (Y0.alloc (.cells #[.slice none 0 0, .slice none 0 0, .int .i64 0, .slice none 0 0, .int .i64 0, .int .i64 0, .int .i64 0, .bool false, .bool false, .int .i64 0, .int .i64 0, .int .i64 0, .int .i64 0, .int .i64 0, .int .i64 0, .int .i64 0] 55)).off O2 (O2' _ Y0.lt)
        have T2 := (T1.alloc (.cells #[.slice none 0 0, .slice none 0 0, .int .i64 0, .slice none 0 0, .int .i64 0, .int .i64 0, .int .i64 0, .bool false, .bool false, .int .i64 0, .int .i64 0, .int .i64 0, .int .i64 0, .int .i64 0, .int .i64 0, .int .i64 0] 55)).off O2 (fun y hy => O2' y (T1.lt y hy))
        have U2 := (Ints.alloc U1 (.cells #[.slice none 0 0, .slice none 0 0, .int .i64 0, .slice none 0 0, .int .i64 0, .int .i64 0, .int .i64 0, .bool false, .bool false, .int .i64 0, .int .i64 0, .int .i64 0, .int .i64 0, .int .i64 0, .int .i64 0, .int .i64 0] 55)).off O2 (fun y hy => O2' y (U1.lt y hy))
        have H2 := (H1.alloc (.cells #[.slice none 0 0, .slice none 0 0, .int .i64 0, .slice none 0 0, .int .i64 0, .int .i64 0, .int .i64 0, .bool false, .bool false, .int .i64 0, .int .i64 0, .int .i64 0, .int .i64 0, .int .i64 0, .int .i64 0, .int .i64 0] 55)).off O2 (fun y hy => O2' y (H1.lt y hy))
        have B2 : Below w.heap.size w w2 := (B0.alloc B0.size _).trans (O2.toBelow (by have := B0.size; simp; omega) (by have := B0.size; simp; omega))
        have nb1 : w1.heap.size ∉ b1 := fun hm => Nat.lt_irrefl _ (U1.lt _ hm)
        have ltY := Y0.lt
        have nbH : w1.heap.size ∉ b2 := fun hm => Nat.lt_irrefl _ (H1.lt _ hm)
        have nbT : w1.heap.size ∉ b0 := fun hm => Nat.lt_irrefl _ (T1.lt _ hm)
        clear Y0 B0 T1 U1 H1 O2 Zn
        generalize w1.heap.size = g at *
        have KT := spec_l4Take g x q0 q1 q2 d0 d1 d2 b1 l q w2 Z2 T2.reads U2 lt1 lt2 k2 hu hw nb1
        go_wp2_with fail
        refine KT.mono ?_
        rintro e w3 ⟨rfl, U3, O3⟩
        have Z3 := Z2.off O3 nb1
        have Y3 := Y2.off O3 (fun hm => by have := f1 _ hm; omega)
        have T3 := T2.off O3 (fun y hy hm => j01 y hy hm)
        have H3 := H2.off O3 (fun y hy hm => j12 y hm hy)
        have B3 : Below w.heap.size w w3 := B2.trans (O3.toBelow B2.size (fun y hy => by have := f1 y hy; omega))
        clear Z2 Y2 T2 U2 H2 B2 O3 KT
        generalize hrr : word x.xTape l (used x l) % q = r at *
        have HR : Hid (word x.xTape l (used x l) % q = r) := hrr
        clear hrr
        go_wp2_with (first | (refine wpList_load_blk rfl 55 _ rfl g rfl Z3 Try.underlying55 rfl (by kernel_rfl) ?_) | (refine wpList_store_blk rfl 61 _ _ rfl (w.heap.size + 1) (#[.int .i64 0, .int .i64 r, .slice q0 x.xTape.length d0, .slice q1 x.xUsed.length d1, .int .i64 x.xSent, .slice q2 x.xHeard.length d2, .int .i64 x.xCheat.xWho, .int .i64 x.xCheat.xAt, .int .i64 x.xCheat.xBy, .bool x.xCheat.xCry, .bool x.xQuarrel.xSome, .int .i64 x.xQuarrel.xFrom, .int .i64 x.xQuarrel.xCheck, .int .i64 x.xQuarrel.xTo, .int .i64 x.xQuarrel.xTold, .int .i64 x.xQuarrel.xHeard, .int .i64 x.xQuarrel.xOther, .int .i64 x.xQuarrel.xVowed]) rfl rfl Y3 rfl (by kernel_rfl) (by kernel_rfl) ?_; intro w4 Y4 O4))
        have B4 : Below w.heap.size w w4 := B3.trans (O4.toBelow B3.size (by simp))
        refine bodyPost_ret (v := .agg #[.int .i64 0, .int .i64 r, .slice q0 x.xTape.length d0, .slice q1 x.xUsed.length d1, .int .i64 x.xSent, .slice q2 x.xHeard.length d2, .int .i64 x.xCheat.xWho, .int .i64 x.xCheat.xAt, .int .i64 x.xCheat.xBy, .bool x.xCheat.xCry, .bool x.xQuarrel.xSome, .int .i64 x.xQuarrel.xFrom, .int .i64 x.xQuarrel.xCheck, .int .i64 x.xQuarrel.xTo, .int .i64 x.xQuarrel.xTold, .int .i64 x.xQuarrel.xHeard, .int .i64 x.xQuarrel.xOther, .int .i64 x.xQuarrel.xVowed]) (results_blk Try.results37 rfl Y4 Try.underlying61 rfl (by kernel_rfl)) rfl ⟨_, b0, b1, b2, rfl, ?_, fun y hy => by have := f0 y hy; omega, fun y hy => by have := f1 y hy; omega, fun y hy => by have := f2 y hy; omega, B4⟩
        rw [HU.out]
        exact ⟨q0, d0, q1, d1, q2, d2, by simp [HR.out], T3.off O4 (fun y hy hm => by have := f0 y hy; simp at hm; omega), by have := U3.off O4 (fun y hy hm => by have := f1 y hy; simp at hm; omega); simpa using this, H3.off O4 (fun y hy hm => by have := f2 y hy; simp at hm; omega), j01, j02, j12⟩
      · rw [takeR_out k0 (fun h => k2 h.2)]
        clear k0
        go_enter Try.func37, Try.ntmps37
        go_wp2_with fail
        refine K.mono ?_
        rintro e w' ⟨rfl, rfl⟩
        go_wp2_with fail
        refine (spec_l2Party_yes _ _ k1).mono ?_
        rintro e w' ⟨rfl, rfl⟩
        go_wp2_with fail
        refine (spec_l1Ring_no _ _ k2).mono ?_
        rintro e w' ⟨rfl, rfl⟩
        go_wp2_with fail
        refine (spec_l4Bad _ _).mono ?_
        rintro e w8 ⟨rfl, hb8⟩
        replace Y0 := Y0.keep hb8
        replace B0 : Below w.heap.size w w8 := B0.trans (hb8.mono B0.size)
        go_wp2_with (refine wpList_store_blk rfl 61 _ _ rfl (w.heap.size + 1) (#[.int .i64 3, .int .i64 0, .slice none 0 0, .slice none 0 0, .int .i64 0, .slice none 0 0, .int .i64 0, .int .i64 0, .int .i64 0, .bool false, .bool false, .int .i64 0, .int .i64 0, .int .i64 0, .int .i64 0, .int .i64 0, .int .i64 0, .int .i64 0]) rfl rfl Y0 rfl (by kernel_rfl) (by kernel_rfl) ?_; intro w9 Y9 O9)
        have B9 : Below w.heap.size w w9 := B0.trans (O9.toBelow B0.size (by simp))
        exact bodyPost_ret (v := .agg #[.int .i64 3, .int .i64 0, .slice none 0 0, .slice none 0 0, .int .i64 0, .slice none 0 0, .int .i64 0, .int .i64 0, .int .i64 0, .bool false, .bool false, .int .i64 0, .int .i64 0, .int .i64 0, .int .i64 0, .int .i64 0, .int .i64 0, .int .i64 0]) (results_blk Try.results37 rfl Y9 Try.underlying61 rfl (by kernel_rfl)) rfl (OutNetR.bad _ B9)
    · rw [takeR_out k0 (fun h => k1 h.1)]
      clear k0
      go_enter Try.func37, Try.ntmps37
      go_wp2_with fail
      refine K.mono ?_
      rintro e w' ⟨rfl, rfl⟩
      go_wp2_with fail
      refine (spec_l2Party_no _ _ k1).mono ?_
      rintro e w' ⟨rfl, rfl⟩
      go_wp2_with fail
      refine (spec_l4Bad _ _).mono ?_
      rintro e w8 ⟨rfl, hb8⟩
      replace Y0 := Y0.keep hb8
      replace B0 : Below w.heap.size w w8 := B0.trans (hb8.mono B0.size)
      go_wp2_with (refine wpList_store_blk rfl 61 _ _ rfl (w.heap.size + 1) (#[.int .i64 3, .int .i64 0, .slice none 0 0, .slice none 0 0, .int .i64 0, .slice none 0 0, .int .i64 0, .int .i64 0, .int .i64 0, .bool false, .bool false, .int .i64 0, .int .i64 0, .int .i64 0, .int .i64 0, .int .i64 0, .int .i64 0, .int .i64 0]) rfl rfl Y0 rfl (by kernel_rfl) (by kernel_rfl) ?_; intro w9 Y9 O9)
      have B9 : Below w.heap.size w w9 := B0.trans (O9.toBelow B0.size (by simp))
      exact bodyPost_ret (v := .agg #[.int .i64 3, .int .i64 0, .slice none 0 0, .slice none 0 0, .int .i64 0, .slice none 0 0, .int .i64 0, .int .i64 0, .int .i64 0, .bool false, .bool false, .int .i64 0, .int .i64 0, .int .i64 0, .int .i64 0, .int .i64 0, .int .i64 0, .int .i64 0]) (results_blk Try.results37 rfl Y9 Try.underlying61 rfl (by kernel_rfl)) rfl (OutNetR.bad _ B9)
  · rw [takeR_fault _ _ k0]
    have hne : (netC x != 0) = true := by simpa using k0
    clear k0
    generalize hr : netC x = r at *
    clear hr
    go_enter Try.func37, Try.ntmps37
    go_wp2_with fail
    refine K.mono ?_
    rintro e w' ⟨rfl, rfl⟩
    go_wp2_with fail
    refine (spec_l4Bad _ _).mono ?_
    rintro e w8 ⟨rfl, hb8⟩
    replace Y0 := Y0.keep hb8
    replace B0 : Below w.heap.size w w8 := B0.trans (hb8.mono B0.size)
    go_wp2_with (refine wpList_store_blk rfl 61 _ _ rfl (w.heap.size + 1) (#[.int .i64 r, .int .i64 0, .slice none 0 0, .slice none 0 0, .int .i64 0, .slice none 0 0, .int .i64 0, .int .i64 0, .int .i64 0, .bool false, .bool false, .int .i64 0, .int .i64 0, .int .i64 0, .int .i64 0, .int .i64 0, .int .i64 0, .int .i64 0]) rfl rfl Y0 rfl (by kernel_rfl) (by kernel_rfl) ?_; intro w9 Y9 O9)
    have B9 : Below w.heap.size w w9 := B0.trans (O9.toBelow B0.size (by simp))
    exact bodyPost_ret (v := .agg #[.int .i64 r, .int .i64 0, .slice none 0 0, .slice none 0 0, .int .i64 0, .slice none 0 0, .int .i64 0, .int .i64 0, .int .i64 0, .bool false, .bool false, .int .i64 0, .int .i64 0, .int .i64 0, .int .i64 0, .int .i64 0, .int .i64 0, .int .i64 0]) (results_blk Try.results37 rfl Y9 Try.underlying61 rfl (by kernel_rfl)) rfl (OutNetR.bad _ B9)
set_option maxHeartbeats 4000000 in
set_option maxRecDepth 100000 in
theorem impl_take (b : Nat) (x : MNet) (q0 q1 q2 : Option Addr) (d0 d1 d2 : Nat) (b1 : List Nat) (l : Nat) (q : Int) (w : World) (hb : Blk w b 55 #[.slice q0 x.xTape.length d0, .slice q1 x.xUsed.length d1, .int .i64 x.xSent, .slice q2 x.xHeard.length d2, .int .i64 x.xCheat.xWho, .int .i64 x.xCheat.xAt, .int .i64 x.xCheat.xBy, .bool x.xCheat.xCry, .bool x.xQuarrel.xSome, .int .i64 x.xQuarrel.xFrom, .int .i64 x.xQuarrel.xCheck, .int .i64 x.xQuarrel.xTo, .int .i64 x.xQuarrel.xTold, .int .i64 x.xQuarrel.xHeard, .int .i64 x.xQuarrel.xOther, .int .i64 x.xQuarrel.xVowed]) (h0 : ReadsM w (.slice q0 x.xTape.length d0) x.xTape) (h1 : Ints w (.slice q1 x.xUsed.length d1) x.xUsed b1) (hl : l < x.xUsed.length) (ht : l < x.xTape.length) (hq : q = 2 ∨ q = 256) (hu : 0 ≤ used x l ∧ used x l ≤ 99999) (hw : 0 ≤ word x.xTape l (used x l)) (hnb : b ∉ b1) :
    Calls Try.prog 86 #[.pointer (some ⟨b, 0, none⟩), .int .i64 l, .int .i64 q] w fun e w' => e = .returned (.int .i64 (word x.xTape l (used x l) % q)) ∧ Ints w' (.slice q1 x.xUsed.length d1) (x.xUsed.set l (used x l + 1)) b1 ∧ Off b1 w w' := by
  obtain ⟨m, hm⟩ := Int.eq_ofNat_of_zero_le hu.1
  obtain ⟨te, hO⟩ := h1
  obtain ⟨g, cap, rfl, e1, hcap, _⟩ := Own.shape hO (by omega)
  simp only [Value.slice.injEq, true_and] at e1
  obtain ⟨rfl, rfl⟩ := e1
  have ca : w.cell? ⟨g, l, none⟩ = some (.int .i64 (used x l)) := by
    rw [Own.cell hO l (by omega)]
    simp [used, hl]
  have cf := Own.frozen hO l
  obtain ⟨gl, ol, ql, dl, rfl, hltl, cl, rl⟩ := h0.lane l ht
  have HW : Hid (word x.xTape l (m : Int) = (x.xTape.getD l []).getD m 0) := rfl
  have K := fun V (h : Reads V .i64 (.slice ql (x.xTape.getD l []).length dl) (x.xTape.getD l [])) => impl_wordOf _ (x.xTape.getD l []) m V h
  have hS0 : Ints (w.setCell ⟨g, l, none⟩ (.int .i64 (used x l + 1))) (.slice (some ⟨g, 0, none⟩) x.xUsed.length d1) (x.xUsed.set l (used x l + 1)) [g] := by
    have := Own.set hO l (.int .i64 (used x l + 1))
    refine ⟨te, ?_⟩
    rw [List.length_set]
    simpa [List.map_set] using this
  have HF : Hid (∀ V, Off [] (w.setCell ⟨g, l, none⟩ (.int .i64 (used x l + 1))) V → Ints V (.slice (some ⟨g, 0, none⟩) x.xUsed.length d1) (x.xUsed.set l (used x l + 1)) [g] ∧ Off [g] w V) := fun V hV => ⟨hS0.off hV (by simp), ((Off.refl _ _).setCell _ _ (by simp)).trans (hV.mono (by simp))⟩
  rw [← HW.out] at K
  rw [← hm] at K HW
  have hg : b ≠ g := fun e => hnb (by simp [e])
  have xa := hb.at.1
  have hS : ((∀ o, w.cell? ⟨b, o, none⟩ = (#[.slice (some ⟨gl, ol, none⟩) x.xTape.length d0, .slice (some ⟨g, 0, none⟩) x.xUsed.length d1, .int .i64 x.xSent, .slice q2 x.xHeard.length d2, .int .i64 x.xCheat.xWho, .int .i64 x.xCheat.xAt, .int .i64 x.xCheat.xBy, .bool x.xCheat.xCry, .bool x.xQuarrel.xSome, .int .i64 x.xQuarrel.xFrom, .int .i64 x.xQuarrel.xCheck, .int .i64 x.xQuarrel.xTo, .int .i64 x.xQuarrel.xTold, .int .i64 x.xQuarrel.xHeard, .int .i64 x.xQuarrel.xOther, .int .i64 x.xQuarrel.xVowed] : Array Value)[o]?) ∧ w.cell? ⟨g, l, none⟩ = some (.int .i64 (used x l))) ∧ w.cell? ⟨gl, ol + l, none⟩ = some (.slice ql (x.xTape.getD l []).length dl) := ⟨⟨xa, ca⟩, cl⟩
  have hi : (l : Int) < (x.xUsed.length : Int) := by omega
  have HM : Hid (word x.xTape l (used x l) = word x.xTape l (used x l)) := rfl
  generalize used x l = u at *
  generalize hy : word x.xTape l u = y at *
  have hi' : (l : Int) < (x.xTape.length : Int) := by omega
  clear hO hS0 hb xa ca hm hy HM HW h0 cl
  generalize x.xTape.getD l [] = ys at *
  go_enter Try.func86, Try.ntmps86
  go_wp2_with fail
  go_region_held3 (fun V => ((∀ o, V.cell? ⟨b, o, none⟩ = (#[.slice (some ⟨gl, ol, none⟩) x.xTape.length d0, .slice (some ⟨g, 0, none⟩) x.xUsed.length d1, .int .i64 x.xSent, .slice q2 x.xHeard.length d2, .int .i64 x.xCheat.xWho, .int .i64 x.xCheat.xAt, .int .i64 x.xCheat.xBy, .bool x.xCheat.xCry, .bool x.xQuarrel.xSome, .int .i64 x.xQuarrel.xFrom, .int .i64 x.xQuarrel.xCheck, .int .i64 x.xQuarrel.xTo, .int .i64 x.xQuarrel.xTold, .int .i64 x.xQuarrel.xHeard, .int .i64 x.xQuarrel.xOther, .int .i64 x.xQuarrel.xVowed] : Array Value)[o]?) ∧ V.cell? ⟨g, l, none⟩ = some (.int .i64 u)) ∧ V.cell? ⟨gl, ol + l, none⟩ = some (.slice ql ys.length dl)) (exact hS) (first | (go_at_call 111; refine (K _ (by exact rl.below (Below.refl _ _).drew)).mono ?_; rintro e w9 ⟨rfl, rfl⟩))
  have xa := hS.1.1
  have ca := hS.1.2
  clear hS K
  rcases hq with rfl | rfl
  · go_wp2
    go_ret
    exact ⟨rfl, HF.out _ (Off.refl _ _).drew⟩
  · go_wp2
    go_ret
    exact ⟨rfl, HF.out _ (Off.refl _ _).drew⟩
set_option maxHeartbeats 4000000 in
set_option maxRecDepth 100000 in
theorem impl_TakeWord (v : Value) (x : MNet) (lane q : Int) (w : World) (hv : RdNet w v x) (hx : Fit x) :
    Calls Try.prog 38 #[v, .int .i64 lane, .int .i64 q] w fun e w' => OutNetR w w' (takeR x lane q) e := by
  obtain ⟨p0, c0, p1, c1, p2, c2, rfl, h0, h1, h2⟩ := hv
  have B0 : Below w.heap.size w ((w.alloc (.cells #[.slice p0 x.xTape.length c0, .slice p1 x.xUsed.length c1, .int .i64 x.xSent, .slice p2 x.xHeard.length c2, .int .i64 x.xCheat.xWho, .int .i64 x.xCheat.xAt, .int .i64 x.xCheat.xBy, .bool x.xCheat.xCry, .bool x.xQuarrel.xSome, .int .i64 x.xQuarrel.xFrom, .int .i64 x.xQuarrel.xCheck, .int .i64 x.xQuarrel.xTo, .int .i64 x.xQuarrel.xTold, .int .i64 x.xQuarrel.xHeard, .int .i64 x.xQuarrel.xOther, .int .i64 x.xQuarrel.xVowed] 55)).alloc (.cells #[.int .i64 0, .int .i64 0, .slice none 0 0, .slice none 0 0, .int .i64 0, .slice none 0 0, .int .i64 0, .int .i64 0, .int .i64 0, .bool false, .bool false, .int .i64 0, .int .i64 0, .int .i64 0, .int .i64 0, .int .i64 0, .int .i64 0, .int .i64 0] 61)) := (by repeat (first | exact Below.refl _ _ | refine Below.drew ?_ | refine below_drewN ?_ _ | refine Below.setCell ?_ (by first | omega | (simp; done) | (simp; omega)) _ | refine Below.alloc ?_ (by first | omega | (simp; done) | (simp; omega)) _))
  have X0 : Blk ((w.alloc (.cells #[.slice p0 x.xTape.length c0, .slice p1 x.xUsed.length c1, .int .i64 x.xSent, .slice p2 x.xHeard.length c2, .int .i64 x.xCheat.xWho, .int .i64 x.xCheat.xAt, .int .i64 x.xCheat.xBy, .bool x.xCheat.xCry, .bool x.xQuarrel.xSome, .int .i64 x.xQuarrel.xFrom, .int .i64 x.xQuarrel.xCheck, .int .i64 x.xQuarrel.xTo, .int .i64 x.xQuarrel.xTold, .int .i64 x.xQuarrel.xHeard, .int .i64 x.xQuarrel.xOther, .int .i64 x.xQuarrel.xVowed] 55)).alloc (.cells #[.int .i64 0, .int .i64 0, .slice none 0 0, .slice none 0 0, .int .i64 0, .slice none 0 0, .int .i64 0, .int .i64 0, .int .i64 0, .bool false, .bool false, .int .i64 0, .int .i64 0, .int .i64 0, .int .i64 0, .int .i64 0, .int .i64 0, .int .i64 0] 61)) w.heap.size 55 #[.slice p0 x.xTape.length c0, .slice p1 x.xUsed.length c1, .int .i64 x.xSent, .slice p2 x.xHeard.length c2, .int .i64 x.xCheat.xWho, .int .i64 x.xCheat.xAt, .int .i64 x.xCheat.xBy, .bool x.xCheat.xCry, .bool x.xQuarrel.xSome, .int .i64 x.xQuarrel.xFrom, .int .i64 x.xQuarrel.xCheck, .int .i64 x.xQuarrel.xTo, .int .i64 x.xQuarrel.xTold, .int .i64 x.xQuarrel.xHeard, .int .i64 x.xQuarrel.xOther, .int .i64 x.xQuarrel.xVowed] := (Blk.new w _ _).alloc _
  have Y0 : Blk ((w.alloc (.cells #[.slice p0 x.xTape.length c0, .slice p1 x.xUsed.length c1, .int .i64 x.xSent, .slice p2 x.xHeard.length c2, .int .i64 x.xCheat.xWho, .int .i64 x.xCheat.xAt, .int .i64 x.xCheat.xBy, .bool x.xCheat.xCry, .bool x.xQuarrel.xSome, .int .i64 x.xQuarrel.xFrom, .int .i64 x.xQuarrel.xCheck, .int .i64 x.xQuarrel.xTo, .int .i64 x.xQuarrel.xTold, .int .i64 x.xQuarrel.xHeard, .int .i64 x.xQuarrel.xOther, .int .i64 x.xQuarrel.xVowed] 55)).alloc (.cells #[.int .i64 0, .int .i64 0, .slice none 0 0, .slice none 0 0, .int .i64 0, .slice none 0 0, .int .i64 0, .int .i64 0, .int .i64 0, .bool false, .bool false, .int .i64 0, .int .i64 0, .int .i64 0, .int .i64 0, .int .i64 0, .int .i64 0, .int .i64 0] 61)) (w.heap.size + 1) 61 #[.int .i64 0, .int .i64 0, .slice none 0 0, .slice none 0 0, .int .i64 0, .slice none 0 0, .int .i64 0, .int .i64 0, .int .i64 0, .bool false, .bool false, .int .i64 0, .int .i64 0, .int .i64 0, .int .i64 0, .int .i64 0, .int .i64 0, .int .i64 0] := by simpa using Blk.new (w.alloc (.cells #[.slice p0 x.xTape.length c0, .slice p1 x.xUsed.length c1, .int .i64 x.xSent, .slice p2 x.xHeard.length c2, .int .i64 x.xCheat.xWho, .int .i64 x.xCheat.xAt, .int .i64 x.xCheat.xBy, .bool x.xCheat.xCry, .bool x.xQuarrel.xSome, .int .i64 x.xQuarrel.xFrom, .int .i64 x.xQuarrel.xCheck, .int .i64 x.xQuarrel.xTo, .int .i64 x.xQuarrel.xTold, .int .i64 x.xQuarrel.xHeard, .int .i64 x.xQuarrel.xOther, .int .i64 x.xQuarrel.xVowed] 55)) 61 #[.int .i64 0, .int .i64 0, .slice none 0 0, .slice none 0 0, .int .i64 0, .slice none 0 0, .int .i64 0, .int .i64 0, .int .i64 0, .bool false, .bool false, .int .i64 0, .int .i64 0, .int .i64 0, .int .i64 0, .int .i64 0, .int .i64 0, .int .i64 0]
  have sz0 : ((w.alloc (.cells #[.slice p0 x.xTape.length c0, .slice p1 x.xUsed.length c1, .int .i64 x.xSent, .slice p2 x.xHeard.length c2, .int .i64 x.xCheat.xWho, .int .i64 x.xCheat.xAt, .int .i64 x.xCheat.xBy, .bool x.xCheat.xCry, .bool x.xQuarrel.xSome, .int .i64 x.xQuarrel.xFrom, .int .i64 x.xQuarrel.xCheck, .int .i64 x.xQuarrel.xTo, .int .i64 x.xQuarrel.xTold, .int .i64 x.xQuarrel.xHeard, .int .i64 x.xQuarrel.xOther, .int .i64 x.xQuarrel.xVowed] 55)).alloc (.cells #[.int .i64 0, .int .i64 0, .slice none 0 0, .slice none 0 0, .int .i64 0, .slice none 0 0, .int .i64 0, .int .i64 0, .int .i64 0, .bool false, .bool false, .int .i64 0, .int .i64 0, .int .i64 0, .int .i64 0, .int .i64 0, .int .i64 0, .int .i64 0] 61)).heap.size = w.heap.size + 2 := by simp
  have K := fun W h => impl_NetFault (.agg #[.slice p0 x.xTape.length c0, .slice p1 x.xUsed.length c1, .int .i64 x.xSent, .slice p2 x.xHeard.length c2, .int .i64 x.xCheat.xWho, .int .i64 x.xCheat.xAt, .int .i64 x.xCheat.xBy, .bool x.xCheat.xCry, .bool x.xQuarrel.xSome, .int .i64 x.xQuarrel.xFrom, .int .i64 x.xQuarrel.xCheck, .int .i64 x.xQuarrel.xTo, .int .i64 x.xQuarrel.xTold, .int .i64 x.xQuarrel.xHeard, .int .i64 x.xQuarrel.xOther, .int .i64 x.xQuarrel.xVowed]) x W h
  by_cases k0 : netC x = 0
  · rw [k0] at K
    by_cases k1 : 0 ≤ lane ∧ lane ≤ 3
    · by_cases k2 : q = 2 ∨ q = 256
      · rw [takeR_in k0 ⟨k1, k2⟩]
        obtain ⟨l, rfl⟩ := Int.eq_ofNat_of_zero_le k1.1
        have hl : l < 4 := by omega
        obtain ⟨z0, z1, _, _⟩ := netC_zero k0
        have hu := used_ok k0 l hl
        have hw := (word_ok z0 l (used x l)).1
        have ht4 := tapeC_four z0
        have lt1 : l < x.xUsed.length := by omega
        have lt2 : l < x.xTape.length := by omega
        have HU : Hid (tookN x l = { x with xUsed := x.xUsed.set l (used x l + 1) }) := rfl
        have HL : Hid ((x.xUsed.set l (used x l + 1)).length = x.xUsed.length) := by show _ = _; rw [List.length_set]
        clear z0 z1 ht4 k0
        go_enter Try.func38, Try.ntmps38
        go_wp2_with (refine wpList_load_blk rfl 55 _ rfl w.heap.size rfl X0 Try.underlying55 rfl (by kernel_rfl) ?_)
        refine (K _ ⟨p0, c0, p1, c1, p2, c2, rfl, h0.below B0, h1.below B0, h2.below B0⟩).mono ?_
        rintro e w1 ⟨rfl, hb1⟩
        replace X0 := X0.keep hb1
        replace Y0 := Y0.keep hb1
        replace B0 : Below w.heap.size w w1 := B0.trans (hb1.mono B0.size)
        have sz1 := hb1.size
        rw [sz0] at sz1
        clear hb1
        go_wp2_with fail
        refine (impl_isParty_yes _ _ k1).mono ?_
        rintro e w' ⟨rfl, rfl⟩
        go_wp2_with fail
        refine (impl_isRing_yes _ _ k2).mono ?_
        rintro e w' ⟨rfl, rfl⟩
        go_wp2_with (refine wpList_load_blk rfl 55 _ rfl w.heap.size rfl X0 Try.underlying55 rfl (by kernel_rfl) ?_)
        refine (impl_copyOfNet _ x _ ⟨p0, c0, p1, c1, p2, c2, rfl, h0.below B0, h1.below B0, h2.below B0⟩ hx).mono ?_
        rintro e w1b ⟨u, b0, b1, b2, rfl, N1, f0, f1, f2, hb1⟩
        obtain ⟨q0, d0, q1, d1, q2, d2, rfl, T1, U1, H1, j01, j02, j12⟩ := N1
        replace f0 := fun y hy => Nat.le_trans sz1 (f0 y hy)
        replace f1 := fun y hy => Nat.le_trans sz1 (f1 y hy)
        replace f2 := fun y hy => Nat.le_trans sz1 (f2 y hy)
        replace Y0 := Y0.keep hb1
        replace B0 : Below w.heap.size w w1b := B0.trans (hb1.mono B0.size)
        replace sz1 := Nat.le_trans sz1 hb1.size
        clear X0 hb1 sz0 K h0 h1 h2
        have Zn := Blk.new w1b 55 #[.slice none 0 0, .slice none 0 0, .int .i64 0, .slice none 0 0, .int .i64 0, .int .i64 0, .int .i64 0, .bool false, .bool false, .int .i64 0, .int .i64 0, .int .i64 0, .int .i64 0, .int .i64 0, .int .i64 0, .int .i64 0]
        go_wp2_with (refine wpList_store_blk rfl 55 _ _ rfl w1b.heap.size (#[.slice q0 x.xTape.length d0, .slice q1 x.xUsed.length d1, .int .i64 x.xSent, .slice q2 x.xHeard.length d2, .int .i64 x.xCheat.xWho, .int .i64 x.xCheat.xAt, .int .i64 x.xCheat.xBy, .bool x.xCheat.xCry, .bool x.xQuarrel.xSome, .int .i64 x.xQuarrel.xFrom, .int .i64 x.xQuarrel.xCheck, .int .i64 x.xQuarrel.xTo, .int .i64 x.xQuarrel.xTold, .int .i64 x.xQuarrel.xHeard, .int .i64 x.xQuarrel.xOther, .int .i64 x.xQuarrel.xVowed]) rfl rfl Zn rfl (by kernel_rfl) (by kernel_rfl) ?_; intro w2 Z2 O2)
        have O2' : ∀ y, y < w1b.heap.size → y ∉ [w1b.heap.size] := fun y hy hm => by simp at hm; omega
        have Y2 := (Y0.alloc (.cells #[.slice none 0 0, .slice none 0 0, .int .i64 0, .slice none 0 0, .int .i64 0, .int .i64 0, .int .i64 0, .bool false, .bool false, .int .i64 0, .int .i64 0, .int .i64 0, .int .i64 0, .int .i64 0, .int .i64 0, .int .i64 0] 55)).off O2 (O2' _ Y0.lt)
        have T2 := (T1.alloc (.cells #[.slice none 0 0, .slice none 0 0, .int .i64 0, .slice none 0 0, .int .i64 0, .int .i64 0, .int .i64 0, .bool false, .bool false, .int .i64 0, .int .i64 0, .int .i64 0, .int .i64 0, .int .i64 0, .int .i64 0, .int .i64 0] 55)).off O2 (fun y hy => O2' y (T1.lt y hy))
        have U2 := (Ints.alloc U1 (.cells #[.slice none 0 0, .slice none 0 0, .int .i64 0, .slice none 0 0, .int .i64 0, .int .i64 0, .int .i64 0, .bool false, .bool false, .int .i64 0, .int .i64 0, .int .i64 0, .int .i64 0, .int .i64 0, .int .i64 0, .int .i64 0] 55)).off O2 (fun y hy => O2' y (U1.lt y hy))
        have H2 := (H1.alloc (.cells #[.slice none 0 0, .slice none 0 0, .int .i64 0, .slice none 0 0, .int .i64 0, .int .i64 0, .int .i64 0, .bool false, .bool false, .int .i64 0, .int .i64 0, .int .i64 0, .int .i64 0, .int .i64 0, .int .i64 0, .int .i64 0] 55)).off O2 (fun y hy => O2' y (H1.lt y hy))
        have B2 : Below w.heap.size w w2 := (B0.alloc B0.size _).trans (O2.toBelow (by have := B0.size; simp; omega) (by have := B0.size; simp; omega))
        have nb1 : w1b.heap.size ∉ b1 := fun hm => Nat.lt_irrefl _ (U1.lt _ hm)
        have ltY := Y0.lt
        have nbH : w1b.heap.size ∉ b2 := fun hm => Nat.lt_irrefl _ (H1.lt _ hm)
        have nbT : w1b.heap.size ∉ b0 := fun hm => Nat.lt_irrefl _ (T1.lt _ hm)
        clear Y0 B0 T1 U1 H1 O2 Zn
        generalize w1b.heap.size = g at *
        have KT := impl_take g x q0 q1 q2 d0 d1 d2 b1 l q w2 Z2 T2.reads U2 lt1 lt2 k2 hu hw nb1
        go_wp2_with fail
        refine KT.mono ?_
        rintro e w3 ⟨rfl, U3, O3⟩
        have Z3 := Z2.off O3 nb1
        have Y3 := Y2.off O3 (fun hm => by have := f1 _ hm; omega)
        have T3 := T2.off O3 (fun y hy hm => j01 y hy hm)
        have H3 := H2.off O3 (fun y hy hm => j12 y hm hy)
        have B3 : Below w.heap.size w w3 := B2.trans (O3.toBelow B2.size (fun y hy => by have := f1 y hy; omega))
        clear Z2 Y2 T2 U2 H2 B2 O3 KT
        generalize hrr : word x.xTape l (used x l) % q = r at *
        have HR : Hid (word x.xTape l (used x l) % q = r) := hrr
        clear hrr
        go_wp2_with (first | (refine wpList_load_blk rfl 55 _ rfl g rfl Z3 Try.underlying55 rfl (by kernel_rfl) ?_) | (refine wpList_store_blk rfl 61 _ _ rfl (w.heap.size + 1) (#[.int .i64 0, .int .i64 r, .slice q0 x.xTape.length d0, .slice q1 x.xUsed.length d1, .int .i64 x.xSent, .slice q2 x.xHeard.length d2, .int .i64 x.xCheat.xWho, .int .i64 x.xCheat.xAt, .int .i64 x.xCheat.xBy, .bool x.xCheat.xCry, .bool x.xQuarrel.xSome, .int .i64 x.xQuarrel.xFrom, .int .i64 x.xQuarrel.xCheck, .int .i64 x.xQuarrel.xTo, .int .i64 x.xQuarrel.xTold, .int .i64 x.xQuarrel.xHeard, .int .i64 x.xQuarrel.xOther, .int .i64 x.xQuarrel.xVowed]) rfl rfl Y3 rfl (by kernel_rfl) (by kernel_rfl) ?_; intro w4 Y4 O4))
        have B4 : Below w.heap.size w w4 := B3.trans (O4.toBelow B3.size (by simp))
        refine bodyPost_ret (v := .agg #[.int .i64 0, .int .i64 r, .slice q0 x.xTape.length d0, .slice q1 x.xUsed.length d1, .int .i64 x.xSent, .slice q2 x.xHeard.length d2, .int .i64 x.xCheat.xWho, .int .i64 x.xCheat.xAt, .int .i64 x.xCheat.xBy, .bool x.xCheat.xCry, .bool x.xQuarrel.xSome, .int .i64 x.xQuarrel.xFrom, .int .i64 x.xQuarrel.xCheck, .int .i64 x.xQuarrel.xTo, .int .i64 x.xQuarrel.xTold, .int .i64 x.xQuarrel.xHeard, .int .i64 x.xQuarrel.xOther, .int .i64 x.xQuarrel.xVowed]) (results_blk Try.results38 rfl Y4 Try.underlying61 rfl (by kernel_rfl)) rfl ⟨_, b0, b1, b2, rfl, ?_, fun y hy => by have := f0 y hy; omega, fun y hy => by have := f1 y hy; omega, fun y hy => by have := f2 y hy; omega, B4⟩
        rw [HU.out]
        exact ⟨q0, d0, q1, d1, q2, d2, by simp [HR.out], T3.off O4 (fun y hy hm => by have := f0 y hy; simp at hm; omega), by have := U3.off O4 (fun y hy hm => by have := f1 y hy; simp at hm; omega); simpa using this, H3.off O4 (fun y hy hm => by have := f2 y hy; simp at hm; omega), j01, j02, j12⟩
      · rw [takeR_out k0 (fun h => k2 h.2)]
        clear k0
        go_enter Try.func38, Try.ntmps38
        go_wp2_with (refine wpList_load_blk rfl 55 _ rfl w.heap.size rfl X0 Try.underlying55 rfl (by kernel_rfl) ?_)
        refine (K _ ⟨p0, c0, p1, c1, p2, c2, rfl, h0.below B0, h1.below B0, h2.below B0⟩).mono ?_
        rintro e w1 ⟨rfl, hb1⟩
        replace X0 := X0.keep hb1
        replace Y0 := Y0.keep hb1
        replace B0 : Below w.heap.size w w1 := B0.trans (hb1.mono B0.size)
        have sz1 := hb1.size
        rw [sz0] at sz1
        clear hb1
        go_wp2_with fail
        refine (impl_isParty_yes _ _ k1).mono ?_
        rintro e w' ⟨rfl, rfl⟩
        go_wp2_with fail
        refine (impl_isRing_no _ _ k2).mono ?_
        rintro e w' ⟨rfl, rfl⟩
        go_wp2_with (refine wpList_store_blk rfl 61 _ _ rfl (w.heap.size + 1) (#[.int .i64 3, .int .i64 0, .slice none 0 0, .slice none 0 0, .int .i64 0, .slice none 0 0, .int .i64 0, .int .i64 0, .int .i64 0, .bool false, .bool false, .int .i64 0, .int .i64 0, .int .i64 0, .int .i64 0, .int .i64 0, .int .i64 0, .int .i64 0]) rfl rfl Y0 rfl (by kernel_rfl) (by kernel_rfl) ?_; intro w9 Y9 O9)
        have B9 : Below w.heap.size w w9 := B0.trans (O9.toBelow B0.size (by simp))
        exact bodyPost_ret (v := .agg #[.int .i64 3, .int .i64 0, .slice none 0 0, .slice none 0 0, .int .i64 0, .slice none 0 0, .int .i64 0, .int .i64 0, .int .i64 0, .bool false, .bool false, .int .i64 0, .int .i64 0, .int .i64 0, .int .i64 0, .int .i64 0, .int .i64 0, .int .i64 0]) (results_blk Try.results38 rfl Y9 Try.underlying61 rfl (by kernel_rfl)) rfl (OutNetR.bad _ B9)
    · rw [takeR_out k0 (fun h => k1 h.1)]
      clear k0
      go_enter Try.func38, Try.ntmps38
      go_wp2_with (refine wpList_load_blk rfl 55 _ rfl w.heap.size rfl X0 Try.underlying55 rfl (by kernel_rfl) ?_)
      refine (K _ ⟨p0, c0, p1, c1, p2, c2, rfl, h0.below B0, h1.below B0, h2.below B0⟩).mono ?_
      rintro e w1 ⟨rfl, hb1⟩
      replace X0 := X0.keep hb1
      replace Y0 := Y0.keep hb1
      replace B0 : Below w.heap.size w w1 := B0.trans (hb1.mono B0.size)
      have sz1 := hb1.size
      rw [sz0] at sz1
      clear hb1
      go_wp2_with fail
      refine (impl_isParty_no _ _ k1).mono ?_
      rintro e w' ⟨rfl, rfl⟩
      go_wp2_with (refine wpList_store_blk rfl 61 _ _ rfl (w.heap.size + 1) (#[.int .i64 3, .int .i64 0, .slice none 0 0, .slice none 0 0, .int .i64 0, .slice none 0 0, .int .i64 0, .int .i64 0, .int .i64 0, .bool false, .bool false, .int .i64 0, .int .i64 0, .int .i64 0, .int .i64 0, .int .i64 0, .int .i64 0, .int .i64 0]) rfl rfl Y0 rfl (by kernel_rfl) (by kernel_rfl) ?_; intro w9 Y9 O9)
      have B9 : Below w.heap.size w w9 := B0.trans (O9.toBelow B0.size (by simp))
      exact bodyPost_ret (v := .agg #[.int .i64 3, .int .i64 0, .slice none 0 0, .slice none 0 0, .int .i64 0, .slice none 0 0, .int .i64 0, .int .i64 0, .int .i64 0, .bool false, .bool false, .int .i64 0, .int .i64 0, .int .i64 0, .int .i64 0, .int .i64 0, .int .i64 0, .int .i64 0]) (results_blk Try.results38 rfl Y9 Try.underlying61 rfl (by kernel_rfl)) rfl (OutNetR.bad _ B9)
  · rw [takeR_fault _ _ k0]
    have hne : (netC x != 0) = true := by simpa using k0
    clear k0
    generalize hr : netC x = r at *
    clear hr
    go_enter Try.func38, Try.ntmps38
    go_wp2_with (refine wpList_load_blk rfl 55 _ rfl w.heap.size rfl X0 Try.underlying55 rfl (by kernel_rfl) ?_)
    refine (K _ ⟨p0, c0, p1, c1, p2, c2, rfl, h0.below B0, h1.below B0, h2.below B0⟩).mono ?_
    rintro e w1 ⟨rfl, hb1⟩
    replace X0 := X0.keep hb1
    replace Y0 := Y0.keep hb1
    replace B0 : Below w.heap.size w w1 := B0.trans (hb1.mono B0.size)
    have sz1 := hb1.size
    rw [sz0] at sz1
    clear hb1
    go_wp2_with (refine wpList_store_blk rfl 61 _ _ rfl (w.heap.size + 1) (#[.int .i64 r, .int .i64 0, .slice none 0 0, .slice none 0 0, .int .i64 0, .slice none 0 0, .int .i64 0, .int .i64 0, .int .i64 0, .bool false, .bool false, .int .i64 0, .int .i64 0, .int .i64 0, .int .i64 0, .int .i64 0, .int .i64 0, .int .i64 0]) rfl rfl Y0 rfl (by kernel_rfl) (by kernel_rfl) ?_; intro w9 Y9 O9)
    have B9 : Below w.heap.size w w9 := B0.trans (O9.toBelow B0.size (by simp))
    exact bodyPost_ret (v := .agg #[.int .i64 r, .int .i64 0, .slice none 0 0, .slice none 0 0, .int .i64 0, .slice none 0 0, .int .i64 0, .int .i64 0, .int .i64 0, .bool false, .bool false, .int .i64 0, .int .i64 0, .int .i64 0, .int .i64 0, .int .i64 0, .int .i64 0, .int .i64 0]) (results_blk Try.results38 rfl Y9 Try.underlying61 rfl (by kernel_rfl)) rfl (OutNetR.bad _ B9)
theorem badN_cnt (c : Int) : cntNetResult (badN c) ≤ 268435456 := by show 0 + 0 + 0 ≤ _; omega
theorem takeR_cnt (x : MNet) (lane q : Int) (h : totNet x ≤ 1048576) : cntNetResult (takeR x lane q) ≤ 268435456 := by
  have h1 := cntNet_le x
  unfold takeR
  split
  · split
    · have h2 : cntNet (tookN x lane) = cntNet x := by unfold cntNet tookN; simp
      show cntNet (tookN x lane) ≤ _
      omega
    · exact badN_cnt _
  · exact badN_cnt _
end Go.Proofs.Ytadppilldijijaj
