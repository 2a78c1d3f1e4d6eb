/-
  Draws of chapter 6: many inputs.
-/
import Derived.Test.YtbmemdgeohnpnacDraw14a
import Derived.Test.YtbmemdgeohnpnacDraw9
import Derived.Test.YtbmemdgeohnpnacApp
namespace Go.Proofs.Ytbmemdgeohnpnac
open Go.ChangeShapes Go.WideShapes Go.ChangeAt Go.RowKit
set_option linter.unusedVariables false

/-- the list that is drawn, and what it is drawn from -/
def Dr (w wr : World) (bS : Nat) (a : Option Addr) (cap : Nat) (zs : List Int) (g c j : Nat) (vs : List Int) : Prop :=
  Own wr 2 1 (.slice (some ⟨g, 0, none⟩) j c) j (vs.map (Value.int .i64)) [g] ∧ vs.length = j ∧ (∃ k, k ≤ 30 + 2 * j ∧ Src wr bS a cap zs k) ∧ w.heap.size ≤ g ∧ g ≠ bS ∧ w.heap.size ≤ bS ∧ Below w.heap.size w wr
set_option maxHeartbeats 8000000 in
set_option maxRecDepth 100000 in
theorem spec_DrawInputMany (a : Option Addr) (cap : Nat) (zs : List Int) (w : World) (hr : Reads w .u8 (.slice a zs.length cap) zs) (hl : zs.length ≤ 1048576) (hb : ∀ i, 0 ≤ zs.getD i 0 ∧ zs.getD i 0 ≤ 255) :
    Calls Try.prog 14 #[.slice a zs.length cap] w fun e w' => ∃ (u : Value) (x : MNet) (oo : Int) (p : Option Addr) (c : Nat) (vs : List Int), e = .returned (.tuple #[u, .int .i64 oo, .slice p vs.length c]) ∧ RdNet w' u x ∧ Fit x ∧ Reads w' .i64 (.slice p vs.length c) vs ∧ Below w.heap.size w w' := by
  obtain ⟨i1, gi, gz0, gz1, gz2⟩ := info_parts Try.infoI
  have Y0 := Blk.new w 33 #[.slice none 0 0, .slice none 0 0, .int .i64 0, .slice none 0 0, .int .i64 0, .int .i64 0, .int .i64 0, .bool false, .bool false, .int .i64 0, .int .i64 0, .int .i64 0, .int .i64 0, .int .i64 0, .int .i64 0, .int .i64 0]
  have B0 : Below w.heap.size w (w.alloc (.cells #[.slice none 0 0, .slice none 0 0, .int .i64 0, .slice none 0 0, .int .i64 0, .int .i64 0, .int .i64 0, .bool false, .bool false, .int .i64 0, .int .i64 0, .int .i64 0, .int .i64 0, .int .i64 0, .int .i64 0, .int .i64 0] 33)) := (by repeat (first | exact Below.refl _ _ | refine Below.drew ?_ | refine below_drewN ?_ _ | refine Below.setCell ?_ (by first | omega | (simp; done) | (simp; omega)) _ | refine Below.alloc ?_ (by first | omega | (simp; done) | (simp; omega)) _))
  have hr0 := hr.below B0
  clear hr
  go_enter Try.func14, Try.ntmps14
  go_wp2_with fail
  refine (spec_DrawInputMirrorS a cap zs _ hr0 hl hb).mono ?_
  rintro e w1 ⟨p0, c0, p1, c1, p2, c2, x, oo, v, rfl, rN, hF, b1⟩
  have hz0 : (w.alloc (.cells #[.slice none 0 0, .slice none 0 0, .int .i64 0, .slice none 0 0, .int .i64 0, .int .i64 0, .int .i64 0, .bool false, .bool false, .int .i64 0, .int .i64 0, .int .i64 0, .int .i64 0, .int .i64 0, .int .i64 0, .int .i64 0] 33)).heap.size = w.heap.size + 1 := by simp
  rw [hz0] at rN
  have HRN : Hid (∀ V cs, Off cs w1 V → (∀ z ∈ cs, z < w.heap.size + 1) → RdNet V (.agg (#[.slice p0 x.xTape.length c0, .slice p1 x.xUsed.length c1, .int .i64 x.xSent, .slice p2 x.xHeard.length c2, .int .i64 x.xCheat.xWho, .int .i64 x.xCheat.xAt, .int .i64 x.xCheat.xBy, .bool x.xCheat.xCry, .bool x.xQuarrel.xSome, .int .i64 x.xQuarrel.xFrom, .int .i64 x.xQuarrel.xCheck, .int .i64 x.xQuarrel.xTo, .int .i64 x.xQuarrel.xTold, .int .i64 x.xQuarrel.xHeard, .int .i64 x.xQuarrel.xOther, .int .i64 x.xQuarrel.xVowed])) x) := rN
  clear rN hz0
  have HF : Hid (Fit x) := hF
  have Y1 := Y0.keep b1
  have hr1 := hr0.below b1
  have B1 := B0.trans (b1.mono B0.size)
  clear hF Y0 B0 hr0 b1
  have lY := Y1.lt
  have Zn := Blk.new w1 33 #[.slice none 0 0, .slice none 0 0, .int .i64 0, .slice none 0 0, .int .i64 0, .int .i64 0, .int .i64 0, .bool false, .bool false, .int .i64 0, .int .i64 0, .int .i64 0, .int .i64 0, .int .i64 0, .int .i64 0, .int .i64 0]
  go_wp2_with (refine wpList_store_blk rfl 33 _ _ rfl w1.heap.size (#[.slice p0 x.xTape.length c0, .slice p1 x.xUsed.length c1, .int .i64 x.xSent, .slice p2 x.xHeard.length c2, .int .i64 x.xCheat.xWho, .int .i64 x.xCheat.xAt, .int .i64 x.xCheat.xBy, .bool x.xCheat.xCry, .bool x.xQuarrel.xSome, .int .i64 x.xQuarrel.xFrom, .int .i64 x.xQuarrel.xCheck, .int .i64 x.xQuarrel.xTo, .int .i64 x.xQuarrel.xTold, .int .i64 x.xQuarrel.xHeard, .int .i64 x.xQuarrel.xOther, .int .i64 x.xQuarrel.xVowed]) rfl rfl Zn rfl (by kernel_rfl) (by kernel_rfl) ?_; intro w2 Z2 O2)
  have b2 : Below w1.heap.size w1 w2 := (((Off.refl [w1.heap.size] w1).alloc _).trans O2).toBelow (Nat.le_refl _) (by simp)
  have Y2 := Y1.keep b2
  have hr2 := hr1.below b2
  have O12 : Off [w.heap.size] w1 w2 := Off.ofBelow b2
  have B2 := B1.trans (b2.mono B1.size)
  have lg := Z2.lt
  have gw : w.heap.size < w1.heap.size := by omega
  clear Zn O2 b2 Y1 hr1 B1 lY
  obtain ⟨gN, hgN⟩ : ∃ n, w1.heap.size = n := ⟨_, rfl⟩
  rw [hgN] at Z2 lg gw ⊢
  clear hgN
  go_wp2_with fail
  refine (spec_l1Later a cap zs 3 _ hr2 hl hb (by omega)).mono ?_
  rintro e w3 ⟨rfl, s3, b3⟩
  have z3 := b3.size
  have l3 := s3.blk.lt
  obtain ⟨bS, hbS⟩ : ∃ n, w2.heap.size = n := ⟨_, rfl⟩
  rw [hbS] at s3 lg l3 ⊢
  clear hr2
  go_wp2_with fail
  refine (spec_l1Next _ a cap zs _ 4 _ (s3.alloc (.cells #[] 2)) (by omega) (by omega)).mono ?_
  rintro e w4 ⟨r4, rfl, hr4, s4, o4⟩
  have o34 : Off [bS] w3 w4 := ((Off.refl _ _).alloc _).trans o4
  have I4 : Own w4 2 1 (.slice (some ⟨w3.heap.size, 0, none⟩) 0 0) 0 (([] : List Int).map (Value.int .i64)) [w3.heap.size] := Own.off (Own.made w3 2 1 #[] 0 (by omega) rfl) o4 (by simp; omega)
  have z4 := o34.size
  have hr40 : 0 ≤ r4 ∧ r4 < 4 := hr4.1 (by omega)
  obtain ⟨k4, rfl⟩ : ∃ k : Nat, r4 = k := ⟨r4.toNat, by omega⟩
  have P4 : ∃ k, k ≤ 27 + 1 ∧ Src w4 bS a cap zs k := ⟨_, by omega, s4⟩
  have hk4 : k4 ≤ 3 := by omega
  clear hr4 hr40 s3 s4 o4
  go_wp2
  go_loopw [9, 10] (fun ov kv wr => ∃ k j g c : Nat, ∃ vs : List Int, k + j ≤ 3 ∧ kv = .int .i64 k ∧ ov = .slice (some ⟨g, 0, none⟩) j c ∧ Own wr 2 1 (.slice (some ⟨g, 0, none⟩) j c) j (vs.map (Value.int .i64)) [g] ∧ vs.length = j ∧ w3.heap.size ≤ g ∧ (∃ m, m ≤ 30 + 2 * j ∧ Src wr bS a cap zs m) ∧ Off [bS] w3 wr) (fun _ kv _ => (intOf kv).toNat)
  case atStart => exact ⟨k4, 0, _, _, [], by omega, rfl, rfl, I4, rfl, Nat.le_refl _, by obtain ⟨m, h1, h2⟩ := P4; exact ⟨m, by omega, h2⟩, o34⟩
  case round =>
    clear I4 P4 o34 hk4
    obtain ⟨k, j, g, c, vs, hkj, rfl, rfl, I, hvl, hg, ⟨m, hm, s⟩, P⟩ := hrel
    by_cases hk : 0 < k
    · have hk1 : (0 : Int) < (k : Int) := by omega
      have lI := Own.lt I g (by simp)
      have zr := P.size
      have HKJ : Hid (k + j ≤ 3 ∧ 0 < k) := ⟨hkj, hk⟩
      clear hkj hk
      go_wp2_with fail
      refine (spec_l1Next _ a cap zs _ 256 _ s (by have := HKJ.out; omega) (by omega)).mono ?_
      rintro e w5 ⟨r5, rfl, -, s5, o5⟩
      have I5 := Own.off I o5 (by simp; omega)
      have P5 := P.trans o5
      have z5 := o5.size
      have l5 := s5.blk.lt
      clear s I P
      go_wp2_with fail
      refine (spec_l1Pick _ a cap zs _ _ [r5, v] [w5.heap.size] _ (s5.alloc _) (by have := HKJ.out; omega) (Ints.lit w5 _ _ 2 rfl rfl (by omega)) (by simp) (by simp) (by simp; omega)).mono ?_
      rintro e w6 ⟨r6, rfl, -, s6, o6⟩
      have I6 := Own.off (Own.alloc I5 (.cells #[.int .i64 r5, .int .i64 v] 2)) o6 (by simp; omega)
      have P6 := (P5.alloc (.cells #[.int .i64 r5, .int .i64 v] 2)).trans o6
      have z6 := o6.size
      simp only [World.size_alloc] at z6
      have l6 := s6.blk.lt
      clear s5 I5 P5 o6 o5
      go_wp2_with (at_builtin; refine wpList_append_Own rfl _ _ 27 rfl 2 i1 (.int .i64 0) 1 8 Try.underlying27 gi gz0 gz1 gz2 rfl (by decide) _ _ _ [g] rfl (Own.alloc I6 _) ⟨w6.heap.size, 0, none⟩ 1 1 [.int .i64 r6] rfl rfl ?c1 ?c2 ?c3 ?c4 ?c5 ?_)
      case c1 => exact World.news_of_block (Blk.new _ _ _)
      case c2 => intro u hu; simp only [List.mem_cons, List.not_mem_nil, or_false] at hu; rw [hu]; rfl
      case c3 => omega
      case c4 => have := HKJ.out; unfold maxLen; omega
      case c5 => have := HKJ.out; omega
      intro g7 c7 w7 hO7 hoff hg7
      have P7 := (P6.alloc (.cells #[.int .i64 r6] 2)).past14 hoff (fun y hy => by simp at hy; right; omega)
      have s7 := (s6.alloc (.cells #[.int .i64 r6] 2)).off hoff (fun y hy => by simp at hy; omega)
      have hg7b : w3.heap.size ≤ g7 := by rcases hg7 with h | h <;> (first | omega | (simp at h; omega))
      have I7 : Own w7 2 1 (.slice (some ⟨g7, 0, none⟩) (j + 1) c7) (j + 1) ((vs ++ [r6]).map (Value.int .i64)) [g7] := by rw [List.map_append]; exact hO7
      clear hO7 hoff hg7 I6 P6 s6
      obtain ⟨k1, hk2⟩ : ∃ q, k = q + 1 := ⟨k - 1, by have := HKJ.out; omega⟩
      have hk1b := HKJ.out
      have ek : ((k : Int) - 1) = (k1 : Int) := by omega
      have hwr : IntKind.i64.wrap (k1 : Int) = (k1 : Int) := by rw [IntKind.wrap_i64]; omega
      go_wp2
      go_roundw
      case rel => exact ⟨k1, j + 1, g7, c7, vs ++ [r6], by have := HKJ.out; omega, by first | rfl | (rw [ek]) | (congr 1; omega), rfl, I7, by simp [hvl], hg7b, ⟨_, by omega, s7⟩, P7⟩
      case measure => have := HKJ.out; simp [intOf]; omega
    · obtain rfl : k = 0 := by omega
      have lI := Own.lt I g (by simp)
      have zr := P.size
      have hj3 : j ≤ 3 := by omega
      clear hkj hk
      go_wp2_with fail
      refine (spec_l1Chance _ a cap zs _ 12 _ s (by omega) (by omega)).mono ?_
      rintro e w5 ⟨r, rfl, s5, o5⟩
      have I5 := Own.off I o5 (by simp; omega)
      have P5 := P.trans o5
      have z5 := P5.size
      clear s I P s5 o5
      have hoo : Off [bS] w3 w5 := P5
      cases r
      · as_aux_lemma =>
          have bt : Below w2.heap.size w2 w5 := b3.trans (P5.toBelow z3 (by simp; omega))
          have Yt := Y2.keep bt
          have Zt := Z2.keep bt
          have Bt := B2.trans (bt.mono B2.size)
          have ot : Off [w.heap.size] w1 w5 := O12.trans (Off.ofBelow bt)
          go_wp2_with (first | (refine wpList_load_blk rfl 33 _ rfl gN rfl Zt Try.underlying33 rfl (by kernel_rfl) ?_) | (refine wpList_store_blk rfl 33 _ _ rfl w.heap.size (#[.slice p0 x.xTape.length c0, .slice p1 x.xUsed.length c1, .int .i64 x.xSent, .slice p2 x.xHeard.length c2, .int .i64 x.xCheat.xWho, .int .i64 x.xCheat.xAt, .int .i64 x.xCheat.xBy, .bool x.xCheat.xCry, .bool x.xQuarrel.xSome, .int .i64 x.xQuarrel.xFrom, .int .i64 x.xQuarrel.xCheck, .int .i64 x.xQuarrel.xTo, .int .i64 x.xQuarrel.xTold, .int .i64 x.xQuarrel.xHeard, .int .i64 x.xQuarrel.xOther, .int .i64 x.xQuarrel.xVowed]) rfl rfl Yt rfl (by kernel_rfl) (by kernel_rfl) ?_; intro w9 Y9 O9))
          have ya := Y9.at.1
          have FN := HRN.out w9 _ (ot.trans O9) (fun z hz => by simp at hz; omega)
          have FL : Reads w9 .i64 (.slice (some ⟨g, 0, none⟩) vs.length c) vs := by rw [hvl]; exact Own.reads (by rw [hvl]; exact Own.off I5 O9 (by simp; omega))
          have FRES : Ending.returned (.tuple #[.agg (#[.slice p0 x.xTape.length c0, .slice p1 x.xUsed.length c1, .int .i64 x.xSent, .slice p2 x.xHeard.length c2, .int .i64 x.xCheat.xWho, .int .i64 x.xCheat.xAt, .int .i64 x.xCheat.xBy, .bool x.xCheat.xCry, .bool x.xQuarrel.xSome, .int .i64 x.xQuarrel.xFrom, .int .i64 x.xQuarrel.xCheck, .int .i64 x.xQuarrel.xTo, .int .i64 x.xQuarrel.xTold, .int .i64 x.xQuarrel.xHeard, .int .i64 x.xQuarrel.xOther, .int .i64 x.xQuarrel.xVowed]), .int .i64 oo, .slice (some ⟨g, 0, none⟩) j c]) = .returned (.tuple #[.agg (#[.slice p0 x.xTape.length c0, .slice p1 x.xUsed.length c1, .int .i64 x.xSent, .slice p2 x.xHeard.length c2, .int .i64 x.xCheat.xWho, .int .i64 x.xCheat.xAt, .int .i64 x.xCheat.xBy, .bool x.xCheat.xCry, .bool x.xQuarrel.xSome, .int .i64 x.xQuarrel.xFrom, .int .i64 x.xQuarrel.xCheck, .int .i64 x.xQuarrel.xTo, .int .i64 x.xQuarrel.xTold, .int .i64 x.xQuarrel.xHeard, .int .i64 x.xQuarrel.xOther, .int .i64 x.xQuarrel.xVowed]), .int .i64 oo, .slice (some ⟨g, 0, none⟩) vs.length c]) := by rw [hvl]
          try go_wp2
          exact bodyPost_ret (v := .tuple #[.agg (#[.slice p0 x.xTape.length c0, .slice p1 x.xUsed.length c1, .int .i64 x.xSent, .slice p2 x.xHeard.length c2, .int .i64 x.xCheat.xWho, .int .i64 x.xCheat.xAt, .int .i64 x.xCheat.xBy, .bool x.xCheat.xCry, .bool x.xQuarrel.xSome, .int .i64 x.xQuarrel.xFrom, .int .i64 x.xQuarrel.xCheck, .int .i64 x.xQuarrel.xTo, .int .i64 x.xQuarrel.xTold, .int .i64 x.xQuarrel.xHeard, .int .i64 x.xQuarrel.xOther, .int .i64 x.xQuarrel.xVowed]), .int .i64 oo, .slice (some ⟨g, 0, none⟩) j c]) (by simp [results, Try.results14, go_sem, ya]) rfl ⟨_, x, oo, _, _, vs, FRES, FN, HF.out, FL, Bt.trans (O9.toBelow Bt.size (by simp))⟩
      · as_aux_lemma =>
          go_wp2_with (at_make; refine wpList_make_full _ rfl _ _ 27 rfl w5.heap.size 2 i1 (.int .i64 0) 1 Try.underlying27 gi gz0 gz1 _ _ _ _ 61 rfl rfl rfl rfl (by rw [gz2]; omega) (by unfold maxLen; omega) (Nat.le_refl _) ?_)
          intro w6 hown hgrow
          have hb6 : Below w5.heap.size w5 w6 := (Below.refl _ _).grown hgrow (Nat.le_refl _) (fun k hk => by cases hk)
          obtain ⟨bs6, h6, -⟩ := Own.of_owns hown
          have P6 := P5.trans (Off.ofBelow hb6)
          have hz6 : (madeCells #[Value.int .i64 0] 61).toList = (List.replicate 61 (0 : Int)).map (Value.int .i64) := by rw [toList_madeCells_one]; simp
          have J6 : Own w6 2 1 (.slice (some ⟨w5.heap.size, 0, none⟩) 61 61) 61 ((List.replicate 61 (0 : Int)).map (Value.int .i64)) bs6 := by rw [← hz6]; exact h6
          have hbs6 : bs6 = [w5.heap.size] := by
            obtain ⟨g6, c6, e1, e2, -, -⟩ := Own.shape J6 (by omega)
            simp only [Value.slice.injEq, Option.some.injEq, Addr.mk.injEq] at e2
            rw [e1, ← e2.1.1]
          subst hbs6
          have HJ : Hid (Own w6 2 1 (.slice (some ⟨w5.heap.size, 0, none⟩) 61 61) 61 ((List.replicate 61 (0 : Int)).map (Value.int .i64)) [w5.heap.size]) := J6
          clear hown hgrow hb6 h6 hz6 J6
          have bt : Below w2.heap.size w2 w6 := b3.trans (P6.toBelow z3 (by simp; omega))
          have Yt := Y2.keep bt
          have Zt := Z2.keep bt
          have Bt := B2.trans (bt.mono B2.size)
          have ot : Off [w.heap.size] w1 w6 := O12.trans (Off.ofBelow bt)
          go_wp2_with (first | (refine wpList_load_blk rfl 33 _ rfl gN rfl Zt Try.underlying33 rfl (by kernel_rfl) ?_) | (refine wpList_store_blk rfl 33 _ _ rfl w.heap.size (#[.slice p0 x.xTape.length c0, .slice p1 x.xUsed.length c1, .int .i64 x.xSent, .slice p2 x.xHeard.length c2, .int .i64 x.xCheat.xWho, .int .i64 x.xCheat.xAt, .int .i64 x.xCheat.xBy, .bool x.xCheat.xCry, .bool x.xQuarrel.xSome, .int .i64 x.xQuarrel.xFrom, .int .i64 x.xQuarrel.xCheck, .int .i64 x.xQuarrel.xTo, .int .i64 x.xQuarrel.xTold, .int .i64 x.xQuarrel.xHeard, .int .i64 x.xQuarrel.xOther, .int .i64 x.xQuarrel.xVowed]) rfl rfl Yt rfl (by kernel_rfl) (by kernel_rfl) ?_; intro w9 Y9 O9))
          have ya := Y9.at.1
          have FN := HRN.out w9 _ (ot.trans O9) (fun z hz => by simp at hz; omega)
          have FL : Reads w9 .i64 (.slice (some ⟨w5.heap.size, 0, none⟩) (List.replicate 61 (0 : Int)).length 61) (List.replicate 61 0) := by rw [List.length_replicate]; exact Own.reads (xs := List.replicate 61 (0 : Int)) (by rw [List.length_replicate]; exact Own.off HJ.out O9 (by simp; omega))
          have FRES : Ending.returned (.tuple #[.agg (#[.slice p0 x.xTape.length c0, .slice p1 x.xUsed.length c1, .int .i64 x.xSent, .slice p2 x.xHeard.length c2, .int .i64 x.xCheat.xWho, .int .i64 x.xCheat.xAt, .int .i64 x.xCheat.xBy, .bool x.xCheat.xCry, .bool x.xQuarrel.xSome, .int .i64 x.xQuarrel.xFrom, .int .i64 x.xQuarrel.xCheck, .int .i64 x.xQuarrel.xTo, .int .i64 x.xQuarrel.xTold, .int .i64 x.xQuarrel.xHeard, .int .i64 x.xQuarrel.xOther, .int .i64 x.xQuarrel.xVowed]), .int .i64 oo, .slice (some ⟨w5.heap.size, 0, none⟩) 61 61]) = .returned (.tuple #[.agg (#[.slice p0 x.xTape.length c0, .slice p1 x.xUsed.length c1, .int .i64 x.xSent, .slice p2 x.xHeard.length c2, .int .i64 x.xCheat.xWho, .int .i64 x.xCheat.xAt, .int .i64 x.xCheat.xBy, .bool x.xCheat.xCry, .bool x.xQuarrel.xSome, .int .i64 x.xQuarrel.xFrom, .int .i64 x.xQuarrel.xCheck, .int .i64 x.xQuarrel.xTo, .int .i64 x.xQuarrel.xTold, .int .i64 x.xQuarrel.xHeard, .int .i64 x.xQuarrel.xOther, .int .i64 x.xQuarrel.xVowed]), .int .i64 oo, .slice (some ⟨w5.heap.size, 0, none⟩) (List.replicate 61 (0 : Int)).length 61]) := by rw [List.length_replicate]
          try go_wp2
          exact bodyPost_ret (v := .tuple #[.agg (#[.slice p0 x.xTape.length c0, .slice p1 x.xUsed.length c1, .int .i64 x.xSent, .slice p2 x.xHeard.length c2, .int .i64 x.xCheat.xWho, .int .i64 x.xCheat.xAt, .int .i64 x.xCheat.xBy, .bool x.xCheat.xCry, .bool x.xQuarrel.xSome, .int .i64 x.xQuarrel.xFrom, .int .i64 x.xQuarrel.xCheck, .int .i64 x.xQuarrel.xTo, .int .i64 x.xQuarrel.xTold, .int .i64 x.xQuarrel.xHeard, .int .i64 x.xQuarrel.xOther, .int .i64 x.xQuarrel.xVowed]), .int .i64 oo, .slice (some ⟨w5.heap.size, 0, none⟩) 61 61]) (by simp [results, Try.results14, go_sem, ya]) rfl ⟨_, x, oo, _, _, List.replicate 61 0, FRES, FN, HF.out, FL, Bt.trans (O9.toBelow Bt.size (by simp))⟩
end Go.Proofs.Ytbmemdgeohnpnac
