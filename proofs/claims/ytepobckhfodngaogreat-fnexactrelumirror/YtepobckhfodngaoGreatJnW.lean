/-
  Contracts of chapter 4: words that are taken: in the program and in its model.
-/
import Derived.Test.YtepobckhfodngaoGreatJnK
import Derived.Test.YtepobckhfodngaoGreatWhole
namespace Go.Proofs.YtepobckhfodngaoGreat
open Go.ChangeShapes Go.WideShapes Go.ChangeAt Go.RowKit
set_option linter.unusedVariables false

def zeroNet : MNet := ⟨[], [], 0, [], ⟨0, 0, 0, false⟩, ⟨false, 0, 0, 0, 0, 0, 0, 0⟩⟩
def badN (c : Int) : MNetResult := ⟨c, 0, zeroNet⟩
/-- what is answered with a code -/
theorem OwNetResult.bad (W : World) (c : Int) : OwNetResult W (.agg #[.int .i64 c, .int .i64 0, .slice none 0 0, .slice none 0 0, .int .i64 0, .slice none 0 0, .int .i64 0, .int .i64 0, .int .i64 0, .bool false, .bool false, .int .i64 0, .int .i64 0, .int .i64 0, .int .i64 0, .int .i64 0, .int .i64 0, .int .i64 0]) (badN c) [] [] [] :=
  ⟨none, 0, none, 0, none, 0, rfl, Mat.nil _, Ints.nil _, Mat.nil _, (fun _ h => by cases h), (fun _ h => by cases h), (fun _ h => by cases h)⟩
def OutNetR (w w' : World) (r : MNetResult) (e : Ending) : Prop := ∃ u b0 b1 b2, e = .returned u ∧ OwNetResult w' u r b0 b1 b2 ∧ (∀ y ∈ b0, w.heap.size ≤ y) ∧ (∀ y ∈ b1, w.heap.size ≤ y) ∧ (∀ y ∈ b2, w.heap.size ≤ y) ∧ Below w.heap.size w w'
theorem OutNetR.bad {w W : World} (c : Int) (h : Below w.heap.size w W) : OutNetR w W (badN c) (.returned (.agg #[.int .i64 c, .int .i64 0, .slice none 0 0, .slice none 0 0, .int .i64 0, .slice none 0 0, .int .i64 0, .int .i64 0, .int .i64 0, .bool false, .bool false, .int .i64 0, .int .i64 0, .int .i64 0, .int .i64 0, .int .i64 0, .int .i64 0, .int .i64 0])) :=
  ⟨_, [], [], [], rfl, OwNetResult.bad W c, by simp, by simp, by simp, h⟩
def used (x : MNet) (lane : Int) : Int := x.xUsed.getD lane.toNat 0
/-- a net of which one more word was taken -/
def tookN (x : MNet) (lane : Int) : MNet := { x with xUsed := x.xUsed.set lane.toNat (used x lane + 1) }
def takeR (x : MNet) (lane q : Int) : MNetResult := if netC x = 0 then (if (0 ≤ lane ∧ lane ≤ 3) ∧ (q = 2 ∨ q = 256) then ⟨0, word x.xTape lane (used x lane) % q, tookN x lane⟩ else badN 3) else badN (netC x)
theorem takeR_fault {x : MNet} (lane q : Int) (h : netC x ≠ 0) : takeR x lane q = badN (netC x) := if_neg h
theorem takeR_out {x : MNet} {lane q : Int} (h : netC x = 0) (k : ¬ ((0 ≤ lane ∧ lane ≤ 3) ∧ (q = 2 ∨ q = 256))) : takeR x lane q = badN 3 := by unfold takeR; rw [if_pos h, if_neg k]
theorem takeR_in {x : MNet} {lane q : Int} (h : netC x = 0) (k : (0 ≤ lane ∧ lane ≤ 3) ∧ (q = 2 ∨ q = 256)) : takeR x lane q = ⟨0, word x.xTape lane (used x lane) % q, tookN x lane⟩ := by unfold takeR; rw [if_pos h, if_pos k]
theorem used_ok {x : MNet} (h : netC x = 0) (l : Nat) (hl : l < 4) : 0 ≤ used x l ∧ used x l ≤ 900000 := by
  obtain ⟨_, hl4, hb, _⟩ := netC_zero h
  have := (okN_iff _).1 ((listsB_iff x).1 hb).1 l (by rw [hl4.1]; exact hl)
  exact ⟨this.1, by show x.xUsed.getD _ 0 ≤ 900000; rw [Int.toNat_natCast]; omega⟩
theorem word_ok {xss : List (List Int)} (h : tapeC xss = 0) (l m : Int) : 0 ≤ word xss l m ∧ word xss l m ≤ 255 := (rowC_zero (tapeC_row h _)).2 _
set_option maxHeartbeats 4000000 in
set_option maxRecDepth 100000 in
theorem spec_l4Take (b : Nat) (x : MNet) (q0 q1 q2 : Option Addr) (d0 d1 d2 : Nat) (b1 : List Nat) (l : Nat) (q : Int) (w : World) (hb : Blk w b 41 #[.slice q0 x.xTape.length d0, .slice q1 x.xUsed.length d1, .int .i64 x.xSent, .slice q2 x.xHeard.length d2, .int .i64 x.xCheat.xWho, .int .i64 x.xCheat.xAt, .int .i64 x.xCheat.xBy, .bool x.xCheat.xCry, .bool x.xQuarrel.xSome, .int .i64 x.xQuarrel.xFrom, .int .i64 x.xQuarrel.xCheck, .int .i64 x.xQuarrel.xTo, .int .i64 x.xQuarrel.xTold, .int .i64 x.xQuarrel.xHeard, .int .i64 x.xQuarrel.xOther, .int .i64 x.xQuarrel.xVowed]) (h0 : ReadsM w (.slice q0 x.xTape.length d0) x.xTape) (h1 : Ints w (.slice q1 x.xUsed.length d1) x.xUsed b1) (hl : l < x.xUsed.length) (ht : l < x.xTape.length) (hq : q = 2 ∨ q = 256) (hu : 0 ≤ used x l ∧ used x l ≤ 900000) (hw : 0 ≤ word x.xTape l (used x l)) (hnb : b ∉ b1) :
    Calls Tryz.prog 109 #[.pointer (some ⟨b, 0, none⟩), .int .i64 l, .int .i64 q] w fun e w' => e = .returned (.int .i64 (word x.xTape l (used x l) % q)) ∧ Ints w' (.slice q1 x.xUsed.length d1) (x.xUsed.set l (used x l + 1)) b1 ∧ Off b1 w w' := by
  obtain ⟨m, hm⟩ := Int.eq_ofNat_of_zero_le hu.1
  obtain ⟨te, hO⟩ := h1
  obtain ⟨g, cap, rfl, e1, hcap, _⟩ := Own.shape hO (by omega)
  simp only [Value.slice.injEq, true_and] at e1
  obtain ⟨rfl, rfl⟩ := e1
  have ca : w.cell? ⟨g, l, none⟩ = some (.int .i64 (used x l)) := by
    rw [Own.cell hO l (by omega)]
    simp [used, hl]
  have cf := Own.frozen hO l
  have K := fun V (h : V.cell? ⟨b, 0, none⟩ = some (.slice q0 x.xTape.length d0)) (h' : ReadsM V (.slice q0 x.xTape.length d0) x.xTape) => spec_l2Word_at b (.slice q0 x.xTape.length d0) x.xTape l m V h h' ht
  have hS0 : Ints (w.setCell ⟨g, l, none⟩ (.int .i64 (used x l + 1))) (.slice (some ⟨g, 0, none⟩) x.xUsed.length d1) (x.xUsed.set l (used x l + 1)) [g] := by
    have := Own.set hO l (.int .i64 (used x l + 1))
    refine ⟨te, ?_⟩
    rw [List.length_set]
    simpa [List.map_set] using this
  have HF : Hid (∀ V, Off [] (w.setCell ⟨g, l, none⟩ (.int .i64 (used x l + 1))) V → Ints V (.slice (some ⟨g, 0, none⟩) x.xUsed.length d1) (x.xUsed.set l (used x l + 1)) [g] ∧ Off [g] w V) := fun V hV => ⟨hS0.off hV (by simp), ((Off.refl _ _).setCell _ _ (by simp)).trans (hV.mono (by simp))⟩
  rw [← hm] at K
  have hg : b ≠ g := fun e => hnb (by simp [e])
  have xa := hb.at.1
  have hS : (∀ o, w.cell? ⟨b, o, none⟩ = (#[.slice q0 x.xTape.length d0, .slice (some ⟨g, 0, none⟩) x.xUsed.length d1, .int .i64 x.xSent, .slice q2 x.xHeard.length d2, .int .i64 x.xCheat.xWho, .int .i64 x.xCheat.xAt, .int .i64 x.xCheat.xBy, .bool x.xCheat.xCry, .bool x.xQuarrel.xSome, .int .i64 x.xQuarrel.xFrom, .int .i64 x.xQuarrel.xCheck, .int .i64 x.xQuarrel.xTo, .int .i64 x.xQuarrel.xTold, .int .i64 x.xQuarrel.xHeard, .int .i64 x.xQuarrel.xOther, .int .i64 x.xQuarrel.xVowed] : Array Value)[o]?) ∧ w.cell? ⟨g, l, none⟩ = some (.int .i64 (used x l)) := ⟨xa, ca⟩
  have hi : (l : Int) < (x.xUsed.length : Int) := by omega
  have HM : Hid (word x.xTape l (used x l) = word x.xTape l (used x l)) := rfl
  generalize used x l = u at *
  generalize hy : word x.xTape l u = y at *
  clear hO hS0 hb xa ca hm hy HM
  go_enter Tryz.func109, Tryz.ntmps109
  go_wp2_with fail
  go_region_held3 (fun V => (∀ o, V.cell? ⟨b, o, none⟩ = (#[.slice q0 x.xTape.length d0, .slice (some ⟨g, 0, none⟩) x.xUsed.length d1, .int .i64 x.xSent, .slice q2 x.xHeard.length d2, .int .i64 x.xCheat.xWho, .int .i64 x.xCheat.xAt, .int .i64 x.xCheat.xBy, .bool x.xCheat.xCry, .bool x.xQuarrel.xSome, .int .i64 x.xQuarrel.xFrom, .int .i64 x.xQuarrel.xCheck, .int .i64 x.xQuarrel.xTo, .int .i64 x.xQuarrel.xTold, .int .i64 x.xQuarrel.xHeard, .int .i64 x.xQuarrel.xOther, .int .i64 x.xQuarrel.xVowed] : Array Value)[o]?) ∧ V.cell? ⟨g, l, none⟩ = some (.int .i64 u)) (exact hS) (first | (go_at_call 126; refine (K _ (by exact hS.1 0) (by exact h0.below (Below.refl _ _).drew)).mono ?_; rintro e w9 ⟨rfl, rfl⟩))
  have xa := hS.1
  have ca := hS.2
  clear hS K h0
  rcases hq with rfl | rfl
  · go_wp2
    go_ret
    exact ⟨rfl, HF.out _ (Off.refl _ _).drew⟩
  · go_wp2
    go_ret
    exact ⟨rfl, HF.out _ (Off.refl _ _).drew⟩
set_option maxHeartbeats 4000000 in
set_option maxRecDepth 100000 in
theorem impl_take (b : Nat) (x : MNet) (q0 q1 q2 : Option Addr) (d0 d1 d2 : Nat) (b1 : List Nat) (l : Nat) (q : Int) (w : World) (hb : Blk w b 41 #[.slice q0 x.xTape.length d0, .slice q1 x.xUsed.length d1, .int .i64 x.xSent, .slice q2 x.xHeard.length d2, .int .i64 x.xCheat.xWho, .int .i64 x.xCheat.xAt, .int .i64 x.xCheat.xBy, .bool x.xCheat.xCry, .bool x.xQuarrel.xSome, .int .i64 x.xQuarrel.xFrom, .int .i64 x.xQuarrel.xCheck, .int .i64 x.xQuarrel.xTo, .int .i64 x.xQuarrel.xTold, .int .i64 x.xQuarrel.xHeard, .int .i64 x.xQuarrel.xOther, .int .i64 x.xQuarrel.xVowed]) (h0 : ReadsM w (.slice q0 x.xTape.length d0) x.xTape) (h1 : Ints w (.slice q1 x.xUsed.length d1) x.xUsed b1) (hl : l < x.xUsed.length) (ht : l < x.xTape.length) (hq : q = 2 ∨ q = 256) (hu : 0 ≤ used x l ∧ used x l ≤ 900000) (hw : 0 ≤ word x.xTape l (used x l)) (hnb : b ∉ b1) :
    Calls Tryz.prog 153 #[.pointer (some ⟨b, 0, none⟩), .int .i64 l, .int .i64 q] w fun e w' => e = .returned (.int .i64 (word x.xTape l (used x l) % q)) ∧ Ints w' (.slice q1 x.xUsed.length d1) (x.xUsed.set l (used x l + 1)) b1 ∧ Off b1 w w' := by
  obtain ⟨m, hm⟩ := Int.eq_ofNat_of_zero_le hu.1
  obtain ⟨te, hO⟩ := h1
  obtain ⟨g, cap, rfl, e1, hcap, _⟩ := Own.shape hO (by omega)
  simp only [Value.slice.injEq, true_and] at e1
  obtain ⟨rfl, rfl⟩ := e1
  have ca : w.cell? ⟨g, l, none⟩ = some (.int .i64 (used x l)) := by
    rw [Own.cell hO l (by omega)]
    simp [used, hl]
  have cf := Own.frozen hO l
  obtain ⟨gl, ol, ql, dl, rfl, hltl, cl, rl⟩ := h0.lane l ht
  have HW : Hid (word x.xTape l (m : Int) = (x.xTape.getD l []).getD m 0) := rfl
  have K := fun V (h : Reads V .i64 (.slice ql (x.xTape.getD l []).length dl) (x.xTape.getD l [])) => impl_wordOf _ (x.xTape.getD l []) m V h
  have hS0 : Ints (w.setCell ⟨g, l, none⟩ (.int .i64 (used x l + 1))) (.slice (some ⟨g, 0, none⟩) x.xUsed.length d1) (x.xUsed.set l (used x l + 1)) [g] := by
    have := Own.set hO l (.int .i64 (used x l + 1))
    refine ⟨te, ?_⟩
    rw [List.length_set]
    simpa [List.map_set] using this
  have HF : Hid (∀ V, Off [] (w.setCell ⟨g, l, none⟩ (.int .i64 (used x l + 1))) V → Ints V (.slice (some ⟨g, 0, none⟩) x.xUsed.length d1) (x.xUsed.set l (used x l + 1)) [g] ∧ Off [g] w V) := fun V hV => ⟨hS0.off hV (by simp), ((Off.refl _ _).setCell _ _ (by simp)).trans (hV.mono (by simp))⟩
  rw [← HW.out] at K
  rw [← hm] at K HW
  have hg : b ≠ g := fun e => hnb (by simp [e])
  have xa := hb.at.1
  have hS : ((∀ o, w.cell? ⟨b, o, none⟩ = (#[.slice (some ⟨gl, ol, none⟩) x.xTape.length d0, .slice (some ⟨g, 0, none⟩) x.xUsed.length d1, .int .i64 x.xSent, .slice q2 x.xHeard.length d2, .int .i64 x.xCheat.xWho, .int .i64 x.xCheat.xAt, .int .i64 x.xCheat.xBy, .bool x.xCheat.xCry, .bool x.xQuarrel.xSome, .int .i64 x.xQuarrel.xFrom, .int .i64 x.xQuarrel.xCheck, .int .i64 x.xQuarrel.xTo, .int .i64 x.xQuarrel.xTold, .int .i64 x.xQuarrel.xHeard, .int .i64 x.xQuarrel.xOther, .int .i64 x.xQuarrel.xVowed] : Array Value)[o]?) ∧ w.cell? ⟨g, l, none⟩ = some (.int .i64 (used x l))) ∧ w.cell? ⟨gl, ol + l, none⟩ = some (.slice ql (x.xTape.getD l []).length dl) := ⟨⟨xa, ca⟩, cl⟩
  have hi : (l : Int) < (x.xUsed.length : Int) := by omega
  have HM : Hid (word x.xTape l (used x l) = word x.xTape l (used x l)) := rfl
  generalize used x l = u at *
  generalize hy : word x.xTape l u = y at *
  have hi' : (l : Int) < (x.xTape.length : Int) := by omega
  clear hO hS0 hb xa ca hm hy HM HW h0 cl
  generalize x.xTape.getD l [] = ys at *
  go_enter Tryz.func153, Tryz.ntmps153
  go_wp2_with fail
  go_region_held3 (fun V => ((∀ o, V.cell? ⟨b, o, none⟩ = (#[.slice (some ⟨gl, ol, none⟩) x.xTape.length d0, .slice (some ⟨g, 0, none⟩) x.xUsed.length d1, .int .i64 x.xSent, .slice q2 x.xHeard.length d2, .int .i64 x.xCheat.xWho, .int .i64 x.xCheat.xAt, .int .i64 x.xCheat.xBy, .bool x.xCheat.xCry, .bool x.xQuarrel.xSome, .int .i64 x.xQuarrel.xFrom, .int .i64 x.xQuarrel.xCheck, .int .i64 x.xQuarrel.xTo, .int .i64 x.xQuarrel.xTold, .int .i64 x.xQuarrel.xHeard, .int .i64 x.xQuarrel.xOther, .int .i64 x.xQuarrel.xVowed] : Array Value)[o]?) ∧ V.cell? ⟨g, l, none⟩ = some (.int .i64 u)) ∧ V.cell? ⟨gl, ol + l, none⟩ = some (.slice ql ys.length dl)) (exact hS) (first | (go_at_call 160; refine (K _ (by exact rl.below (Below.refl _ _).drew)).mono ?_; rintro e w9 ⟨rfl, rfl⟩))
  have xa := hS.1.1
  have ca := hS.1.2
  clear hS K
  rcases hq with rfl | rfl
  · go_wp2
    go_ret
    exact ⟨rfl, HF.out _ (Off.refl _ _).drew⟩
  · go_wp2
    go_ret
    exact ⟨rfl, HF.out _ (Off.refl _ _).drew⟩
theorem badN_cnt (c : Int) : cntNetResult (badN c) ≤ 268435456 := by show 0 + 0 + 0 ≤ _; omega
theorem takeR_cnt (x : MNet) (lane q : Int) (h : totNet x ≤ 1048576) : cntNetResult (takeR x lane q) ≤ 268435456 := by
  have h1 := cntNet_le x
  unfold takeR
  split
  · split
    · have h2 : cntNet (tookN x lane) = cntNet x := by unfold cntNet tookN; simp
      show cntNet (tookN x lane) ≤ _
      omega
    · exact badN_cnt _
  · exact badN_cnt _
end Go.Proofs.YtepobckhfodngaoGreat
