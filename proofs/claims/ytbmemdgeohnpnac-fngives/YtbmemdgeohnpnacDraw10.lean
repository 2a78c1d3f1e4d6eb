/-
  Draws of chapters 5 and 6: nets without a fault; what is given, and what three heard.
-/
import Derived.Test.YtbmemdgeohnpnacDraw6
namespace Go.Proofs.Ytbmemdgeohnpnac
open Go.ChangeShapes Go.WideShapes Go.ChangeAt Go.RowKit
set_option linter.unusedVariables false

set_option maxHeartbeats 8000000 in
set_option maxRecDepth 100000 in
theorem spec_l5Net (b : Nat) (a : Option Addr) (cap : Nat) (zs : List Int) (k : Nat) (w : World) (hs : Src w b a cap zs k) (hk : k ≤ 800000000) :
    Calls Try.prog 26 #[.pointer (some ⟨b, 0, none⟩)] w fun e w' => ∃ u, e = .returned u ∧ BentN w b a cap zs k u w' := by
  have hbl := hs.blk.lt
  have Y0 := Blk.new w 33 #[.slice none 0 0, .slice none 0 0, .int .i64 0, .slice none 0 0, .int .i64 0, .int .i64 0, .int .i64 0, .bool false, .bool false, .int .i64 0, .int .i64 0, .int .i64 0, .int .i64 0, .int .i64 0, .int .i64 0, .int .i64 0]
  have nb : w.heap.size ∉ [b] := fun hm => by simp at hm; omega
  have S0 := hs.alloc (.cells #[.slice none 0 0, .slice none 0 0, .int .i64 0, .slice none 0 0, .int .i64 0, .int .i64 0, .int .i64 0, .bool false, .bool false, .int .i64 0, .int .i64 0, .int .i64 0, .int .i64 0, .int .i64 0, .int .i64 0, .int .i64 0] 33)
  have O0 : Off [b] w (w.alloc (.cells #[.slice none 0 0, .slice none 0 0, .int .i64 0, .slice none 0 0, .int .i64 0, .int .i64 0, .int .i64 0, .bool false, .bool false, .int .i64 0, .int .i64 0, .int .i64 0, .int .i64 0, .int .i64 0, .int .i64 0, .int .i64 0] 33)) := (Off.refl _ _).alloc _
  have hz0 : (w.alloc (.cells #[.slice none 0 0, .slice none 0 0, .int .i64 0, .slice none 0 0, .int .i64 0, .int .i64 0, .int .i64 0, .bool false, .bool false, .int .i64 0, .int .i64 0, .int .i64 0, .int .i64 0, .int .i64 0, .int .i64 0, .int .i64 0] 33)).heap.size = w.heap.size + 1 := by simp
  clear hs
  go_enter Try.func26, Try.ntmps26
  go_wp2_with fail
  refine (spec_l4Draw b a cap zs k _ S0 (by omega)).mono ?_
  rintro e w1 ⟨q0, d0, q1, d1, q2, d2, xs, us, ch, sent, b0, b1, b2, rfl, T1, U1, H1, j01, j02, j12, hD, hul, f0, f1, f2, ⟨j, hj, s1⟩, o1⟩
  rw [hz0] at f0 f1 f2
  have Y1 := Y0.off o1 nb
  have O1 := O0.trans o1
  have z1 := o1.size
  rw [hz0] at z1
  have HD : Hid (TapeD xs) := hD
  have HL : Hid (xs.length = 4) := hD.1
  have HU : Hid (us.length = 4) := hul
  clear hD hul Y0 S0 O0 o1 hz0
  have Zn := Blk.new w1 33 #[.slice none 0 0, .slice none 0 0, .int .i64 0, .slice none 0 0, .int .i64 0, .int .i64 0, .int .i64 0, .bool false, .bool false, .int .i64 0, .int .i64 0, .int .i64 0, .int .i64 0, .int .i64 0, .int .i64 0, .int .i64 0]
  go_wp2_with (refine wpList_store_blk rfl 33 _ _ rfl w1.heap.size (#[.slice q0 4 d0, .slice q1 4 d1, .int .i64 sent, .slice q2 4 d2, .int .i64 ch.xWho, .int .i64 ch.xAt, .int .i64 ch.xBy, .bool ch.xCry, .bool false, .int .i64 0, .int .i64 0, .int .i64 0, .int .i64 0, .int .i64 0, .int .i64 0, .int .i64 0]) rfl rfl Zn rfl (by kernel_rfl) (by kernel_rfl) ?_; intro w2 Z2 O2)
  have O2' : ∀ y, y < w1.heap.size → y ∉ [w1.heap.size] := fun y hy hm => by simp at hm; omega
  have Y2 := (Y1.alloc (.cells #[.slice none 0 0, .slice none 0 0, .int .i64 0, .slice none 0 0, .int .i64 0, .int .i64 0, .int .i64 0, .bool false, .bool false, .int .i64 0, .int .i64 0, .int .i64 0, .int .i64 0, .int .i64 0, .int .i64 0, .int .i64 0] 33)).off O2 (O2' _ Y1.lt)
  have T2 := (T1.alloc (.cells #[.slice none 0 0, .slice none 0 0, .int .i64 0, .slice none 0 0, .int .i64 0, .int .i64 0, .int .i64 0, .bool false, .bool false, .int .i64 0, .int .i64 0, .int .i64 0, .int .i64 0, .int .i64 0, .int .i64 0, .int .i64 0] 33)).off O2 (fun y hy => O2' y (T1.lt y hy))
  have U2 := (Ints.alloc U1 (.cells #[.slice none 0 0, .slice none 0 0, .int .i64 0, .slice none 0 0, .int .i64 0, .int .i64 0, .int .i64 0, .bool false, .bool false, .int .i64 0, .int .i64 0, .int .i64 0, .int .i64 0, .int .i64 0, .int .i64 0, .int .i64 0] 33)).off O2 (fun y hy => O2' y (U1.lt y hy))
  have H2 := (H1.alloc (.cells #[.slice none 0 0, .slice none 0 0, .int .i64 0, .slice none 0 0, .int .i64 0, .int .i64 0, .int .i64 0, .bool false, .bool false, .int .i64 0, .int .i64 0, .int .i64 0, .int .i64 0, .int .i64 0, .int .i64 0, .int .i64 0] 33)).off O2 (fun y hy => O2' y (H1.lt y hy))
  have s2 := (s1.alloc (.cells #[.slice none 0 0, .slice none 0 0, .int .i64 0, .slice none 0 0, .int .i64 0, .int .i64 0, .int .i64 0, .bool false, .bool false, .int .i64 0, .int .i64 0, .int .i64 0, .int .i64 0, .int .i64 0, .int .i64 0, .int .i64 0] 33)).off O2 (fun y hy => by simp at hy; omega)
  have P2 : Off [b] w w2 := (O1.alloc (.cells #[.slice none 0 0, .slice none 0 0, .int .i64 0, .slice none 0 0, .int .i64 0, .int .i64 0, .int .i64 0, .bool false, .bool false, .int .i64 0, .int .i64 0, .int .i64 0, .int .i64 0, .int .i64 0, .int .i64 0, .int .i64 0] 33)).fresh O2 (fun y hy => by simp at hy; omega)
  have n0 : w1.heap.size ∉ b0 := fun h => Nat.lt_irrefl _ (T1.lt _ h)
  have n1 : w1.heap.size ∉ b1 := fun h => Nat.lt_irrefl _ (U1.lt _ h)
  have n2 : w1.heap.size ∉ b2 := fun h => Nat.lt_irrefl _ (H1.lt _ h)
  clear Zn Y1 T1 U1 H1 s1 O1 O2 O2'
  generalize w1.heap.size = g at *
  go_wp2_with fail
  refine (spec_l1Chance b a cap zs (k + j) 2 _ s2 (by omega) (by omega)).mono ?_
  rintro e w3 ⟨r, rfl, s3, o3⟩
  have Y3 := Y2.off o3 nb
  have Z3 := Z2.off o3 (by simp; omega)
  have T3 := T2.off o3 (fun y hy hm => by have := f0 y hy; simp at hm; omega)
  have U3 := U2.off o3 (fun y hy hm => by have := f1 y hy; simp at hm; omega)
  have H3 := H2.off o3 (fun y hy hm => by have := f2 y hy; simp at hm; omega)
  have P3 := P2.trans o3
  have lg := Z3.lt
  clear Y2 Z2 T2 U2 H2 s2 P2 o3
  cases r
  · have RR : Hid (∀ V cs, Off cs w3 V → (∀ z ∈ cs, z ≤ w.heap.size) → RdNet V (.agg #[.slice q0 4 d0, .slice q1 4 d1, .int .i64 sent, .slice q2 4 d2, .int .i64 ch.xWho, .int .i64 ch.xAt, .int .i64 ch.xBy, .bool ch.xCry, .bool false, .int .i64 0, .int .i64 0, .int .i64 0, .int .i64 0, .int .i64 0, .int .i64 0, .int .i64 0]) (⟨xs, us, sent, [[], [], [], []], ch, ⟨false, 0, 0, 0, 0, 0, 0, 0⟩⟩ : MNet)) := fun V cs o h => ⟨q0, d0, q1, d1, q2, d2, by dsimp only; rw [HL.out, HU.out]; rfl, (by dsimp only; rw [HL.out]; exact (T3.off o (fun y hy hm => by have := f0 y hy; have := h y hm; omega)).reads), (by dsimp only; rw [HU.out]; exact Ints.reads (U3.off o (fun y hy hm => by have := f1 y hy; have := h y hm; omega))), (H3.off o (fun y hy hm => by have := f2 y hy; have := h y hm; omega)).reads⟩
    have HF : Hid (Fit (⟨xs, us, sent, [[], [], [], []], ch, ⟨false, 0, 0, 0, 0, 0, 0, 0⟩⟩ : MNet)) := fitN HD.out.b (by rw [HU.out]; omega) (by simp) four_rows
    go_wp2_with (first | (refine wpList_load_blk rfl 33 _ rfl g rfl Z3 Try.underlying33 rfl (by kernel_rfl) ?_) | (refine wpList_store_blk rfl 33 _ _ rfl w.heap.size (#[.slice q0 4 d0, .slice q1 4 d1, .int .i64 sent, .slice q2 4 d2, .int .i64 ch.xWho, .int .i64 ch.xAt, .int .i64 ch.xBy, .bool ch.xCry, .bool false, .int .i64 0, .int .i64 0, .int .i64 0, .int .i64 0, .int .i64 0, .int .i64 0, .int .i64 0]) rfl rfl Y3 rfl (by kernel_rfl) (by kernel_rfl) ?_; intro w9 Y9 O9))
    exact bodyPost_ret (v := .agg #[.slice q0 4 d0, .slice q1 4 d1, .int .i64 sent, .slice q2 4 d2, .int .i64 ch.xWho, .int .i64 ch.xAt, .int .i64 ch.xBy, .bool ch.xCry, .bool false, .int .i64 0, .int .i64 0, .int .i64 0, .int .i64 0, .int .i64 0, .int .i64 0, .int .i64 0]) (results_blk Try.results26 rfl Y9 Try.underlying33 rfl (by kernel_rfl)) rfl ⟨_, rfl, _, fun V cs o h => RR.out V ([w.heap.size] ++ cs) ((O9.mono (fun y hy => List.mem_append_left _ hy)).trans (o.mono (fun y hy => List.mem_append_right _ hy))) (fun z hz => by rcases List.mem_append.1 hz with h' | h'; (simp at h'; omega); (have := h z h'; omega)), HF.out, ⟨j + 1, by omega, (by have hsrc := s3.off O9 (fun y hy => by simp at hy; omega); simpa only [Nat.add_assoc] using hsrc)⟩, P3.fresh O9 (fun y hy => by simp at hy; omega)⟩
  · have za := Z3.at.1
    have zb := Z3.at.2
    have O5 : Off [g] w3 ((((w3.setCell ⟨g, 4, none⟩ (.int .i64 (-1))).setCell ⟨g, 5, none⟩ (.int .i64 0)).setCell ⟨g, 6, none⟩ (.int .i64 0)).setCell ⟨g, 7, none⟩ (.bool false)) := (((((Off.refl _ _).setCell _ _ (by simp)).setCell _ _ (by simp)).setCell _ _ (by simp)).setCell _ _ (by simp))
    have Z5 : Blk ((((w3.setCell ⟨g, 4, none⟩ (.int .i64 (-1))).setCell ⟨g, 5, none⟩ (.int .i64 0)).setCell ⟨g, 6, none⟩ (.int .i64 0)).setCell ⟨g, 7, none⟩ (.bool false)) g 33 #[.slice q0 4 d0, .slice q1 4 d1, .int .i64 sent, .slice q2 4 d2, .int .i64 (-1), .int .i64 0, .int .i64 0, .bool false, .bool false, .int .i64 0, .int .i64 0, .int .i64 0, .int .i64 0, .int .i64 0, .int .i64 0, .int .i64 0] := Blk.of_eq ((((Z3.set 4 _).set 5 _).set 6 _).set 7 _) (by simp)
    have Y5 := Y3.off O5 (by simp; omega)
    have T5 := T3.off O5 (fun y hy hm => by simp at hm; exact n0 (hm ▸ hy))
    have U5 := U3.off O5 (fun y hy hm => by simp at hm; exact n1 (hm ▸ hy))
    have H5 := H3.off O5 (fun y hy hm => by simp at hm; exact n2 (hm ▸ hy))
    have s5 := s3.off O5 (fun y hy => by simp at hy; omega)
    have P5 := P3.fresh O5 (fun y hy => by simp at hy; omega)
    clear Y3 Z3 T3 U3 H3 s3 P3
    have RR : Hid (∀ V cs, Off cs ((((w3.setCell ⟨g, 4, none⟩ (.int .i64 (-1))).setCell ⟨g, 5, none⟩ (.int .i64 0)).setCell ⟨g, 6, none⟩ (.int .i64 0)).setCell ⟨g, 7, none⟩ (.bool false)) V → (∀ z ∈ cs, z ≤ w.heap.size) → RdNet V (.agg #[.slice q0 4 d0, .slice q1 4 d1, .int .i64 sent, .slice q2 4 d2, .int .i64 (-1), .int .i64 0, .int .i64 0, .bool false, .bool false, .int .i64 0, .int .i64 0, .int .i64 0, .int .i64 0, .int .i64 0, .int .i64 0, .int .i64 0]) (⟨xs, us, sent, [[], [], [], []], ⟨-1, 0, 0, false⟩, ⟨false, 0, 0, 0, 0, 0, 0, 0⟩⟩ : MNet)) := fun V cs o h => ⟨q0, d0, q1, d1, q2, d2, by dsimp only; rw [HL.out, HU.out]; rfl, (by dsimp only; rw [HL.out]; exact (T5.off o (fun y hy hm => by have := f0 y hy; have := h y hm; omega)).reads), (by dsimp only; rw [HU.out]; exact Ints.reads (U5.off o (fun y hy hm => by have := f1 y hy; have := h y hm; omega))), (H5.off o (fun y hy hm => by have := f2 y hy; have := h y hm; omega)).reads⟩
    have HF : Hid (Fit (⟨xs, us, sent, [[], [], [], []], ⟨-1, 0, 0, false⟩, ⟨false, 0, 0, 0, 0, 0, 0, 0⟩⟩ : MNet)) := fitN HD.out.b (by rw [HU.out]; omega) (by simp) four_rows
    go_wp2_with (first | (refine wpList_load_blk rfl 33 _ rfl g rfl Z5 Try.underlying33 rfl (by kernel_rfl) ?_) | (refine wpList_store_blk rfl 33 _ _ rfl w.heap.size (#[.slice q0 4 d0, .slice q1 4 d1, .int .i64 sent, .slice q2 4 d2, .int .i64 (-1), .int .i64 0, .int .i64 0, .bool false, .bool false, .int .i64 0, .int .i64 0, .int .i64 0, .int .i64 0, .int .i64 0, .int .i64 0, .int .i64 0]) rfl rfl Y5 rfl (by kernel_rfl) (by kernel_rfl) ?_; intro w9 Y9 O9))
    exact bodyPost_ret (v := .agg #[.slice q0 4 d0, .slice q1 4 d1, .int .i64 sent, .slice q2 4 d2, .int .i64 (-1), .int .i64 0, .int .i64 0, .bool false, .bool false, .int .i64 0, .int .i64 0, .int .i64 0, .int .i64 0, .int .i64 0, .int .i64 0, .int .i64 0]) (results_blk Try.results26 rfl Y9 Try.underlying33 rfl (by kernel_rfl)) rfl ⟨_, rfl, _, fun V cs o h => RR.out V ([w.heap.size] ++ cs) ((O9.mono (fun y hy => List.mem_append_left _ hy)).trans (o.mono (fun y hy => List.mem_append_right _ hy))) (fun z hz => by rcases List.mem_append.1 hz with h' | h'; (simp at h'; omega); (have := h z h'; omega)), HF.out, ⟨j + 1, by omega, (by have hsrc := s5.off O9 (fun y hy => by simp at hy; omega); simpa only [Nat.add_assoc] using hsrc)⟩, P5.fresh O9 (fun y hy => by simp at hy; omega)⟩
set_option maxHeartbeats 8000000 in
set_option maxRecDepth 100000 in
theorem spec_DrawInputMirror (a : Option Addr) (cap : Nat) (zs : List Int) (w : World) (hr : Reads w .u8 (.slice a zs.length cap) zs) (hl : zs.length ≤ 1048576) (hb : ∀ i, 0 ≤ zs.getD i 0 ∧ zs.getD i 0 ≤ 255) :
    Calls Try.prog 7 #[.slice a zs.length cap] w fun e w' => ∃ p0 c0 p1 c1 p2 c2, ∃ x : MNet, ∃ o v : Int, e = .returned (.tuple #[.agg #[.slice p0 x.xTape.length c0, .slice p1 x.xUsed.length c1, .int .i64 x.xSent, .slice p2 x.xHeard.length c2, .int .i64 x.xCheat.xWho, .int .i64 x.xCheat.xAt, .int .i64 x.xCheat.xBy, .bool x.xCheat.xCry, .bool x.xQuarrel.xSome, .int .i64 x.xQuarrel.xFrom, .int .i64 x.xQuarrel.xCheck, .int .i64 x.xQuarrel.xTo, .int .i64 x.xQuarrel.xTold, .int .i64 x.xQuarrel.xHeard, .int .i64 x.xQuarrel.xOther, .int .i64 x.xQuarrel.xVowed], .int .i64 o, .int .i64 v]) ∧ RdNet w' (.agg #[.slice p0 x.xTape.length c0, .slice p1 x.xUsed.length c1, .int .i64 x.xSent, .slice p2 x.xHeard.length c2, .int .i64 x.xCheat.xWho, .int .i64 x.xCheat.xAt, .int .i64 x.xCheat.xBy, .bool x.xCheat.xCry, .bool x.xQuarrel.xSome, .int .i64 x.xQuarrel.xFrom, .int .i64 x.xQuarrel.xCheck, .int .i64 x.xQuarrel.xTo, .int .i64 x.xQuarrel.xTold, .int .i64 x.xQuarrel.xHeard, .int .i64 x.xQuarrel.xOther, .int .i64 x.xQuarrel.xVowed]) x ∧ Fit x ∧ Below w.heap.size w w' := by
  have B0 : Below w.heap.size w (w.alloc (.cells #[.slice none 0 0, .slice none 0 0, .int .i64 0, .slice none 0 0, .int .i64 0, .int .i64 0, .int .i64 0, .bool false, .bool false, .int .i64 0, .int .i64 0, .int .i64 0, .int .i64 0, .int .i64 0, .int .i64 0, .int .i64 0] 33)) := (by repeat (first | exact Below.refl _ _ | refine Below.drew ?_ | refine below_drewN ?_ _ | refine Below.setCell ?_ (by first | omega | (simp; done) | (simp; omega)) _ | refine Below.alloc ?_ (by first | omega | (simp; done) | (simp; omega)) _))
  have Y0 := Blk.new w 33 #[.slice none 0 0, .slice none 0 0, .int .i64 0, .slice none 0 0, .int .i64 0, .int .i64 0, .int .i64 0, .bool false, .bool false, .int .i64 0, .int .i64 0, .int .i64 0, .int .i64 0, .int .i64 0, .int .i64 0, .int .i64 0]
  go_enter Try.func7, Try.ntmps7
  go_wp2_with fail
  refine (spec_l1Source a cap zs _ (hr.below B0) hl hb).mono ?_
  rintro e w1 ⟨rfl, s1, hb1⟩
  have hz : (w.alloc (.cells #[.slice none 0 0, .slice none 0 0, .int .i64 0, .slice none 0 0, .int .i64 0, .int .i64 0, .int .i64 0, .bool false, .bool false, .int .i64 0, .int .i64 0, .int .i64 0, .int .i64 0, .int .i64 0, .int .i64 0, .int .i64 0] 33)).heap.size = w.heap.size + 1 := by simp
  rw [hz] at s1 ⊢
  replace Y0 := Y0.keep hb1
  replace B0 : Below w.heap.size w w1 := B0.trans (hb1.mono B0.size)
  have l1 := s1.blk.lt
  clear hb1 hz
  go_wp2_with fail
  refine (spec_l5Net _ a cap zs 0 _ s1 (by omega)).mono ?_
  rintro e w2 ⟨u, rfl, x, hR, hF, ⟨j, hj, s2⟩, o2⟩
  obtain ⟨p0, c0, p1, c1, p2, c2, rfl, -⟩ := hR w2 [] (Off.refl _ _) (by simp)
  have HR : Hid (∀ W cs, Off cs w2 W → (∀ z ∈ cs, z < w1.heap.size ∨ w2.heap.size ≤ z) → RdNet W (.agg #[.slice p0 x.xTape.length c0, .slice p1 x.xUsed.length c1, .int .i64 x.xSent, .slice p2 x.xHeard.length c2, .int .i64 x.xCheat.xWho, .int .i64 x.xCheat.xAt, .int .i64 x.xCheat.xBy, .bool x.xCheat.xCry, .bool x.xQuarrel.xSome, .int .i64 x.xQuarrel.xFrom, .int .i64 x.xQuarrel.xCheck, .int .i64 x.xQuarrel.xTo, .int .i64 x.xQuarrel.xTold, .int .i64 x.xQuarrel.xHeard, .int .i64 x.xQuarrel.xOther, .int .i64 x.xQuarrel.xVowed]) x) := fun W cs o h => hR W (cs.filter (fun z => z < w1.heap.size)) ⟨o.os, o.tape, o.output, o.size, fun i hi hn => o.block i hi (fun hm => by
      rcases h i hm with h' | h'
      · exact hn (List.mem_filter.2 ⟨hm, by simpa using h'⟩)
      · omega)⟩ (fun z hz => by have := (List.mem_filter.1 hz).2; simpa using this)
  have HF : Hid (Fit x) := hF
  have Y2 := Y0.off o2 (by simp)
  have z2 := o2.size
  have B2 : Below w.heap.size w w2 := B0.trans (o2.toBelow B0.size (by simp))
  clear hR hF Y0 B0 o2 s1
  have Zn := Blk.new w2 33 #[.slice none 0 0, .slice none 0 0, .int .i64 0, .slice none 0 0, .int .i64 0, .int .i64 0, .int .i64 0, .bool false, .bool false, .int .i64 0, .int .i64 0, .int .i64 0, .int .i64 0, .int .i64 0, .int .i64 0, .int .i64 0]
  go_wp2_with (refine wpList_store_blk rfl 33 _ _ rfl w2.heap.size (#[.slice p0 x.xTape.length c0, .slice p1 x.xUsed.length c1, .int .i64 x.xSent, .slice p2 x.xHeard.length c2, .int .i64 x.xCheat.xWho, .int .i64 x.xCheat.xAt, .int .i64 x.xCheat.xBy, .bool x.xCheat.xCry, .bool x.xQuarrel.xSome, .int .i64 x.xQuarrel.xFrom, .int .i64 x.xQuarrel.xCheck, .int .i64 x.xQuarrel.xTo, .int .i64 x.xQuarrel.xTold, .int .i64 x.xQuarrel.xHeard, .int .i64 x.xQuarrel.xOther, .int .i64 x.xQuarrel.xVowed]) rfl rfl Zn rfl (by kernel_rfl) (by kernel_rfl) ?_; intro w3 Z3 O3)
  have P3 : Off [w2.heap.size] w2 w3 := ((Off.refl _ _).alloc _).trans O3
  have Y3 := Y2.off P3 (by simp; omega)
  have B3 : Below w.heap.size w w3 := B2.trans (P3.toBelow B2.size (by simp; omega))
  have s3 := s2.off P3 (fun y hy => by simp at hy; omega)
  have z3 := P3.size
  have lz3 := Z3.lt
  clear Y2 B2 s2 O3 Zn
  generalize hg : w2.heap.size = g at *
  have Q3 : Off [w.heap.size + 1, g, w.heap.size] w2 w3 := P3.mono (by simp)
  clear P3
  go_wp2_with fail
  refine (spec_l1Chance _ a cap zs (0 + j) 6 _ s3 (by omega) (by omega)).mono ?_
  rintro e w4 ⟨r, rfl, s4, o4⟩
  have Y4 := Y3.off o4 (by simp)
  have Z4 := Z3.off o4 (by simp; omega)
  have z4 := o4.size
  have B4 := B3.trans (o4.toBelow B3.size (by simp))
  have Q4 := Q3.trans (o4.mono (by simp))
  clear Y3 Z3 B3 Q3 s3 o4
  cases r
  · have tkA : True := trivial
    have Zd := Z4.drew
    have Yd := Y4.drew
    have sd : Src w4.drew (w.heap.size + 1) a cap zs (0 + j + 1) := s4.keep (Below.refl _ _).drew
    have Bd := B4.drew
    have lb := sd.blk.lt
    have lgd := Zd.lt
    have lyd := Yd.lt
    clear Z4 Y4 s4 B4
    go_wp2_with fail
    refine wp_region_held (S := fun V => (∀ o, V.cell? ⟨g, o, none⟩ = (#[.slice p0 x.xTape.length c0, .slice p1 x.xUsed.length c1, .int .i64 x.xSent, .slice p2 x.xHeard.length c2, .int .i64 x.xCheat.xWho, .int .i64 x.xCheat.xAt, .int .i64 x.xCheat.xBy, .bool x.xCheat.xCry, .bool x.xQuarrel.xSome, .int .i64 x.xQuarrel.xFrom, .int .i64 x.xQuarrel.xCheck, .int .i64 x.xQuarrel.xTo, .int .i64 x.xQuarrel.xTold, .int .i64 x.xQuarrel.xHeard, .int .i64 x.xQuarrel.xOther, .int .i64 x.xQuarrel.xVowed] : Array Value)[o]?)) (by kernel_rfl) ?_
    try (change wpAnyH _ _ _ _ _ _ _ _ (World.drew _))
    have hS : (∀ o, w4.drew.cell? ⟨g, o, none⟩ = (#[.slice p0 x.xTape.length c0, .slice p1 x.xUsed.length c1, .int .i64 x.xSent, .slice p2 x.xHeard.length c2, .int .i64 x.xCheat.xWho, .int .i64 x.xCheat.xAt, .int .i64 x.xCheat.xBy, .bool x.xCheat.xCry, .bool x.xQuarrel.xSome, .int .i64 x.xQuarrel.xFrom, .int .i64 x.xQuarrel.xCheck, .int .i64 x.xQuarrel.xTo, .int .i64 x.xQuarrel.xTold, .int .i64 x.xQuarrel.xHeard, .int .i64 x.xQuarrel.xOther, .int .i64 x.xQuarrel.xVowed] : Array Value)[o]?) := Zd.at.1
    refine wpAnyH_take (i := 0) (v := .agg #[.slice p0 x.xTape.length c0, .slice p1 x.xUsed.length c1, .int .i64 x.xSent, .slice p2 x.xHeard.length c2, .int .i64 x.xCheat.xWho, .int .i64 x.xCheat.xAt, .int .i64 x.xCheat.xBy, .bool x.xCheat.xCry, .bool x.xQuarrel.xSome, .int .i64 x.xQuarrel.xFrom, .int .i64 x.xQuarrel.xCheck, .int .i64 x.xQuarrel.xTo, .int .i64 x.xQuarrel.xTold, .int .i64 x.xQuarrel.xHeard, .int .i64 x.xQuarrel.xOther, .int .i64 x.xQuarrel.xVowed]) rfl (by kernel_rfl) (by kernel_rfl) (by kernel_rfl) (fun _ _ _ h => h) (Or.inl ⟨by rfl, ?_⟩) hS ?_
    · intro w' hSw
      go_simp
    (try simp only [List.getElem_toArray]); (try simp only [List.getElem_cons_succ]); (try simp only [List.getElem_cons_zero]); (try simp only [Act.put]); (try simp only [List.setIfInBounds_toArray]); (try simp only [List.set_cons_succ]); (try simp only [List.set_cons_zero])
    refine wpAnyH_take (i := 1) (v := .pointer (some ⟨w.heap.size + 1, 0, none⟩)) rfl (by kernel_rfl) (by kernel_rfl) (by kernel_rfl) (fun _ _ _ h => h) (Or.inl ⟨by rfl, ?_⟩) hS ?_
    · intro w' hSw
      go_simp
    (try simp only [List.getElem_toArray]); (try simp only [List.getElem_cons_succ]); (try simp only [List.getElem_cons_zero]); (try simp only [Act.put]); (try simp only [List.setIfInBounds_toArray]); (try simp only [List.set_cons_succ]); (try simp only [List.set_cons_zero])
    refine wpAnyH_take (i := 4) (v := .pointer (some ⟨w.heap.size + 1, 0, none⟩)) rfl (by kernel_rfl) (by kernel_rfl) (by kernel_rfl) (fun _ _ _ h => h) (Or.inl ⟨by rfl, ?_⟩) hS ?_
    · intro w' hSw
      go_simp
    (try simp only [List.getElem_toArray]); (try simp only [List.getElem_cons_succ]); (try simp only [List.getElem_cons_zero]); (try simp only [Act.put]); (try simp only [List.setIfInBounds_toArray]); (try simp only [List.set_cons_succ]); (try simp only [List.set_cons_zero])
    refine wpAnyH_take (i := 5) (v := .pointer (some ⟨w.heap.size + 1, 0, none⟩)) rfl (by kernel_rfl) (by kernel_rfl) (by kernel_rfl) (fun _ _ _ h => h) (Or.inl ⟨by rfl, ?_⟩) hS ?_
    · intro w' hSw
      go_simp
    (try simp only [List.getElem_toArray]); (try simp only [List.getElem_cons_succ]); (try simp only [List.getElem_cons_zero]); (try simp only [Act.put]); (try simp only [List.setIfInBounds_toArray]); (try simp only [List.set_cons_succ]); (try simp only [List.set_cons_zero])
    refine wpAnyH_take (i := 7) (v := .pointer (some ⟨w.heap.size + 1, 0, none⟩)) rfl (by kernel_rfl) (by kernel_rfl) (by kernel_rfl) (fun _ _ _ h => h) (Or.inl ⟨by rfl, ?_⟩) hS ?_
    · intro w' hSw
      go_simp
    (try simp only [List.getElem_toArray]); (try simp only [List.getElem_cons_succ]); (try simp only [List.getElem_cons_zero]); (try simp only [Act.put]); (try simp only [List.setIfInBounds_toArray]); (try simp only [List.set_cons_succ]); (try simp only [List.set_cons_zero])
    refine wpAnyH_ready (rs := [2]) (by kernel_rfl) (by simp) ?_
    refine AllReadyH.cons (o := _) rfl (fun K hK => ?_) AllReadyH.nil
    rw [if_pos (by rfl)]
    go_simp
    refine hK.out _ _ (Zd.alloc (.cells #[.int .i64 0, .int .i64 1, .int .i64 2, .int .i64 3, .int .i64 4] 2)).at.1 (fun hS => ?_)
    clear hK K
    (try simp only [List.getElem_toArray]); (try simp only [List.getElem_cons_succ]); (try simp only [List.getElem_cons_zero]); (try simp only [Act.put]); (try simp only [List.setIfInBounds_toArray]); (try simp only [List.set_cons_succ]); (try simp only [List.set_cons_zero])
    refine wpAnyH_ready (rs := [3]) (by kernel_rfl) (by simp) ?_
    refine AllReadyH.cons (o := _) rfl (fun K hK => ?_) AllReadyH.nil
    rw [if_pos (by rfl)]
    go_simp
    go_at_call 29
    refine (spec_l1Pick _ a cap zs (0 + j + 1) _ [0, 1, 2, 3, 4] [w4.heap.size] _ (sd.alloc _) (by omega) (Ints.lit w4.drew _ _ 5 rfl rfl (by omega)) (by simp) (by simp) (by simp at lb ⊢; omega)).mono ?_
    rintro e w11 ⟨oo, rfl, -, s11, o11⟩
    have O11 : Off [w.heap.size + 1] w4.drew w11 := ((Off.refl _ _).alloc _).trans o11
    have z11 := O11.size
    have Z11 := Zd.off O11 (by simp; omega)
    dsimp only
    refine hK.out _ _ Z11.at.1 (fun hS => ?_)
    clear hK K
    (try simp only [List.getElem_toArray]); (try simp only [List.getElem_cons_succ]); (try simp only [List.getElem_cons_zero]); (try simp only [Act.put]); (try simp only [List.setIfInBounds_toArray]); (try simp only [List.set_cons_succ]); (try simp only [List.set_cons_zero])
    refine wpAnyH_ready (rs := [6]) (by kernel_rfl) (by simp) ?_
    refine AllReadyH.cons (o := _) rfl (fun K hK => ?_) AllReadyH.nil
    rw [if_pos (by rfl)]
    go_simp
    go_at_call 30
    refine (spec_l1Next _ a cap zs (0 + j + 1 + 1) 256 _ s11 (by omega) (by omega)).mono ?_
    rintro e w12 ⟨v1, rfl, -, s12, o12⟩
    have O12 := O11.trans o12
    have Z12 := Zd.off O12 (by simp; omega)
    have z12 := o12.size
    dsimp only
    refine hK.out _ _ Z12.at.1 (fun hS => ?_)
    clear hK K
    (try simp only [List.getElem_toArray]); (try simp only [List.getElem_cons_succ]); (try simp only [List.getElem_cons_zero]); (try simp only [Act.put]); (try simp only [List.setIfInBounds_toArray]); (try simp only [List.set_cons_succ]); (try simp only [List.set_cons_zero])
    refine wpAnyH_ready (rs := [8]) (by kernel_rfl) (by simp) ?_
    refine AllReadyH.cons (o := _) rfl (fun K hK => ?_) AllReadyH.nil
    rw [if_pos (by rfl)]
    go_simp
    go_at_call 30
    refine (spec_l1Next _ a cap zs (0 + j + 1 + 1 + 1) 256 _ s12 (by omega) (by omega)).mono ?_
    rintro e w13 ⟨v2, rfl, -, s13, o13⟩
    have O13 := O12.trans o13
    have Z13 := Zd.off O13 (by simp; omega)
    have z13 := o13.size
    have l13 := s13.blk.lt
    dsimp only
    refine hK.out _ _ Z13.at.1 (fun hS => ?_)
    clear hK K
    (try simp only [List.getElem_toArray]); (try simp only [List.getElem_cons_succ]); (try simp only [List.getElem_cons_zero]); (try simp only [Act.put]); (try simp only [List.setIfInBounds_toArray]); (try simp only [List.set_cons_succ]); (try simp only [List.set_cons_zero])
    refine wpAnyH_ready (rs := [9]) (by kernel_rfl) (by simp) ?_
    refine AllReadyH.cons (o := _) rfl (fun K hK => ?_) AllReadyH.nil
    rw [if_pos (by rfl)]
    go_simp
    refine hK.out _ _ (Z13.alloc (.cells #[.int .i64 v1, .int .i64 v2, .int .i64 256] 2)).at.1 (fun hS => ?_)
    clear hK K
    (try simp only [List.getElem_toArray]); (try simp only [List.getElem_cons_succ]); (try simp only [List.getElem_cons_zero]); (try simp only [Act.put]); (try simp only [List.setIfInBounds_toArray]); (try simp only [List.set_cons_succ]); (try simp only [List.set_cons_zero])
    refine wpAnyH_ready (rs := [10]) (by kernel_rfl) (by simp) ?_
    refine AllReadyH.cons (o := _) rfl (fun K hK => ?_) AllReadyH.nil
    rw [if_pos (by rfl)]
    go_simp
    go_at_call 29
    refine (spec_l1Pick _ a cap zs (0 + j + 1 + 1 + 1 + 1) _ [v1, v2, 256] [w13.heap.size] _ (s13.alloc _) (by omega) (Ints.lit w13 _ _ 3 rfl rfl (by omega)) (by simp) (by simp) (by simp; omega)).mono ?_
    rintro e w14 ⟨vv, rfl, -, s14, o14⟩
    have O14 : Off [w.heap.size + 1] w4.drew w14 := (O13.alloc _).trans o14
    have Z14 := Zd.off O14 (by simp; omega)
    have Y14 := Yd.off O14 (by simp)
    have B14 := Bd.trans (O14.toBelow Bd.size (by simp))
    dsimp only
    refine hK.out _ _ Z14.at.1 (fun hS => ?_)
    clear hK K
    (try simp only [List.getElem_toArray]); (try simp only [List.getElem_cons_succ]); (try simp only [List.getElem_cons_zero]); (try simp only [Act.put]); (try simp only [List.setIfInBounds_toArray]); (try simp only [List.set_cons_succ]); (try simp only [List.set_cons_zero])
    refine wpAnyH_ready (rs := [11]) (by kernel_rfl) (by simp) ?_
    refine AllReadyH.cons (o := _) rfl (fun K hK => ?_) AllReadyH.nil
    refine step_store_blk rfl 33 _ _ rfl w.heap.size (#[.slice p0 x.xTape.length c0, .slice p1 x.xUsed.length c1, .int .i64 x.xSent, .slice p2 x.xHeard.length c2, .int .i64 x.xCheat.xWho, .int .i64 x.xCheat.xAt, .int .i64 x.xCheat.xBy, .bool x.xCheat.xCry, .bool x.xQuarrel.xSome, .int .i64 x.xQuarrel.xFrom, .int .i64 x.xQuarrel.xCheck, .int .i64 x.xQuarrel.xTo, .int .i64 x.xQuarrel.xTold, .int .i64 x.xQuarrel.xHeard, .int .i64 x.xQuarrel.xOther, .int .i64 x.xQuarrel.xVowed]) rfl rfl Y14 rfl (by kernel_rfl) (by kernel_rfl) ?_
    intro w20 Y9 O9
    have Z9 := Z14.off O9 (by simp; omega)
    refine hK.out _ _ Z9.at.1 (fun hS => ?_)
    clear hK K
    (try simp only [List.getElem_toArray]); (try simp only [List.getElem_cons_succ]); (try simp only [List.getElem_cons_zero]); (try simp only [Act.put]); (try simp only [List.setIfInBounds_toArray]); (try simp only [List.set_cons_succ]); (try simp only [List.set_cons_zero])
    refine wpAnyH_take (i := 12) (v := .int .i64 oo) rfl (by kernel_rfl) (by kernel_rfl) (by kernel_rfl) (fun _ _ _ h => h) (Or.inl ⟨by rfl, ?_⟩) hS ?_
    · intro w' hSw
      go_simp
    (try simp only [List.getElem_toArray]); (try simp only [List.getElem_cons_succ]); (try simp only [List.getElem_cons_zero]); (try simp only [Act.put]); (try simp only [List.setIfInBounds_toArray]); (try simp only [List.set_cons_succ]); (try simp only [List.set_cons_zero])
    refine wpAnyH_take (i := 13) (v := .int .i64 vv) rfl (by kernel_rfl) (by kernel_rfl) (by kernel_rfl) (fun _ _ _ h => h) (Or.inl ⟨by rfl, ?_⟩) hS ?_
    · intro w' hSw
      go_simp
    (try simp only [List.getElem_toArray]); (try simp only [List.getElem_cons_succ]); (try simp only [List.getElem_cons_zero]); (try simp only [Act.put]); (try simp only [List.setIfInBounds_toArray]); (try simp only [List.set_cons_succ]); (try simp only [List.set_cons_zero])
    refine wpAnyH_done (by kernel_rfl) ?_ _
    clear hS
    have ya := Y9.at.1
    have B9 : Below w.heap.size w w20 := B14.trans (O9.toBelow B14.size (by simp))
    have O14 : Off [w.heap.size + 1] w4 w14 := ⟨O14.os, O14.tape, O14.output, O14.size, O14.block⟩
    go_wp2
    exact bodyPost_ret (v := .tuple #[.agg #[.slice p0 x.xTape.length c0, .slice p1 x.xUsed.length c1, .int .i64 x.xSent, .slice p2 x.xHeard.length c2, .int .i64 x.xCheat.xWho, .int .i64 x.xCheat.xAt, .int .i64 x.xCheat.xBy, .bool x.xCheat.xCry, .bool x.xQuarrel.xSome, .int .i64 x.xQuarrel.xFrom, .int .i64 x.xQuarrel.xCheck, .int .i64 x.xQuarrel.xTo, .int .i64 x.xQuarrel.xTold, .int .i64 x.xQuarrel.xHeard, .int .i64 x.xQuarrel.xOther, .int .i64 x.xQuarrel.xVowed], .int .i64 oo, .int .i64 vv]) (by simp [results, Try.results7, go_sem, ya]) rfl ⟨p0, c0, p1, c1, p2, c2, x, oo, vv, rfl, HR.out w20 [w.heap.size + 1, g, w.heap.size] ((Q4.trans (O14.mono (by simp))).trans (O9.mono (by simp))) (by simp; omega), HF.out, B9⟩
  · have tkB : True := trivial
    clear HR HF Q4
    go_wp2_with fail
    refine (spec_l4Bent _ a cap zs (0 + j + 1) _ s4 (by omega)).mono ?_
    rintro e w5 ⟨u, rfl, y, hR, hF, ⟨j5, hj5, s5⟩, o5⟩
    obtain ⟨p07, c07, p17, c17, p27, c27, rfl, -⟩ := hR w5 [] (Off.refl _ _) (by simp)
    have HF : Hid (Fit y) := hF
    have HR := (show Hid _ from hR)
    have Y5 := Y4.off o5 (by simp)
    have Z5 := Z4.off o5 (by simp; omega)
    have z5 := o5.size
    have B5 := B4.trans (o5.toBelow B4.size (by simp))
    clear hR hF Y4 Z4 B4 s4 o5
    go_wp2_with (refine wpList_store_blk rfl 33 _ _ rfl g (#[.slice p07 y.xTape.length c07, .slice p17 y.xUsed.length c17, .int .i64 y.xSent, .slice p27 y.xHeard.length c27, .int .i64 y.xCheat.xWho, .int .i64 y.xCheat.xAt, .int .i64 y.xCheat.xBy, .bool y.xCheat.xCry, .bool y.xQuarrel.xSome, .int .i64 y.xQuarrel.xFrom, .int .i64 y.xQuarrel.xCheck, .int .i64 y.xQuarrel.xTo, .int .i64 y.xQuarrel.xTold, .int .i64 y.xQuarrel.xHeard, .int .i64 y.xQuarrel.xOther, .int .i64 y.xQuarrel.xVowed]) rfl rfl Z5 rfl (by kernel_rfl) (by kernel_rfl) ?_; intro w6 Z6 O6)
    have Y6 := Y5.off O6 (by simp; omega)
    have z6 := O6.size
    have B6 : Below w.heap.size w w6 := B5.trans (O6.toBelow B5.size (by simp; omega))
    have s6 := s5.off O6 (fun y hy => by simp at hy; omega)
    clear Y5 Z5 B5 s5
    have Zd := Z6.drew
    have Yd := Y6.drew
    have sd : Src w6.drew (w.heap.size + 1) a cap zs (0 + j + 1 + j5) := s6.keep (Below.refl _ _).drew
    have Bd := B6.drew
    have lb := sd.blk.lt
    have lgd := Zd.lt
    have lyd := Yd.lt
    clear Z6 Y6 s6 B6
    go_wp2_with fail
    refine wp_region_held (S := fun V => (∀ o, V.cell? ⟨g, o, none⟩ = (#[.slice p07 y.xTape.length c07, .slice p17 y.xUsed.length c17, .int .i64 y.xSent, .slice p27 y.xHeard.length c27, .int .i64 y.xCheat.xWho, .int .i64 y.xCheat.xAt, .int .i64 y.xCheat.xBy, .bool y.xCheat.xCry, .bool y.xQuarrel.xSome, .int .i64 y.xQuarrel.xFrom, .int .i64 y.xQuarrel.xCheck, .int .i64 y.xQuarrel.xTo, .int .i64 y.xQuarrel.xTold, .int .i64 y.xQuarrel.xHeard, .int .i64 y.xQuarrel.xOther, .int .i64 y.xQuarrel.xVowed] : Array Value)[o]?)) (by kernel_rfl) ?_
    try (change wpAnyH _ _ _ _ _ _ _ _ (World.drew _))
    have hS : (∀ o, w6.drew.cell? ⟨g, o, none⟩ = (#[.slice p07 y.xTape.length c07, .slice p17 y.xUsed.length c17, .int .i64 y.xSent, .slice p27 y.xHeard.length c27, .int .i64 y.xCheat.xWho, .int .i64 y.xCheat.xAt, .int .i64 y.xCheat.xBy, .bool y.xCheat.xCry, .bool y.xQuarrel.xSome, .int .i64 y.xQuarrel.xFrom, .int .i64 y.xQuarrel.xCheck, .int .i64 y.xQuarrel.xTo, .int .i64 y.xQuarrel.xTold, .int .i64 y.xQuarrel.xHeard, .int .i64 y.xQuarrel.xOther, .int .i64 y.xQuarrel.xVowed] : Array Value)[o]?) := Zd.at.1
    refine wpAnyH_take (i := 0) (v := .agg #[.slice p07 y.xTape.length c07, .slice p17 y.xUsed.length c17, .int .i64 y.xSent, .slice p27 y.xHeard.length c27, .int .i64 y.xCheat.xWho, .int .i64 y.xCheat.xAt, .int .i64 y.xCheat.xBy, .bool y.xCheat.xCry, .bool y.xQuarrel.xSome, .int .i64 y.xQuarrel.xFrom, .int .i64 y.xQuarrel.xCheck, .int .i64 y.xQuarrel.xTo, .int .i64 y.xQuarrel.xTold, .int .i64 y.xQuarrel.xHeard, .int .i64 y.xQuarrel.xOther, .int .i64 y.xQuarrel.xVowed]) rfl (by kernel_rfl) (by kernel_rfl) (by kernel_rfl) (fun _ _ _ h => h) (Or.inl ⟨by rfl, ?_⟩) hS ?_
    · intro w' hSw
      go_simp
    (try simp only [List.getElem_toArray]); (try simp only [List.getElem_cons_succ]); (try simp only [List.getElem_cons_zero]); (try simp only [Act.put]); (try simp only [List.setIfInBounds_toArray]); (try simp only [List.set_cons_succ]); (try simp only [List.set_cons_zero])
    refine wpAnyH_take (i := 1) (v := .pointer (some ⟨w.heap.size + 1, 0, none⟩)) rfl (by kernel_rfl) (by kernel_rfl) (by kernel_rfl) (fun _ _ _ h => h) (Or.inl ⟨by rfl, ?_⟩) hS ?_
    · intro w' hSw
      go_simp
    (try simp only [List.getElem_toArray]); (try simp only [List.getElem_cons_succ]); (try simp only [List.getElem_cons_zero]); (try simp only [Act.put]); (try simp only [List.setIfInBounds_toArray]); (try simp only [List.set_cons_succ]); (try simp only [List.set_cons_zero])
    refine wpAnyH_take (i := 4) (v := .pointer (some ⟨w.heap.size + 1, 0, none⟩)) rfl (by kernel_rfl) (by kernel_rfl) (by kernel_rfl) (fun _ _ _ h => h) (Or.inl ⟨by rfl, ?_⟩) hS ?_
    · intro w' hSw
      go_simp
    (try simp only [List.getElem_toArray]); (try simp only [List.getElem_cons_succ]); (try simp only [List.getElem_cons_zero]); (try simp only [Act.put]); (try simp only [List.setIfInBounds_toArray]); (try simp only [List.set_cons_succ]); (try simp only [List.set_cons_zero])
    refine wpAnyH_take (i := 5) (v := .pointer (some ⟨w.heap.size + 1, 0, none⟩)) rfl (by kernel_rfl) (by kernel_rfl) (by kernel_rfl) (fun _ _ _ h => h) (Or.inl ⟨by rfl, ?_⟩) hS ?_
    · intro w' hSw
      go_simp
    (try simp only [List.getElem_toArray]); (try simp only [List.getElem_cons_succ]); (try simp only [List.getElem_cons_zero]); (try simp only [Act.put]); (try simp only [List.setIfInBounds_toArray]); (try simp only [List.set_cons_succ]); (try simp only [List.set_cons_zero])
    refine wpAnyH_take (i := 7) (v := .pointer (some ⟨w.heap.size + 1, 0, none⟩)) rfl (by kernel_rfl) (by kernel_rfl) (by kernel_rfl) (fun _ _ _ h => h) (Or.inl ⟨by rfl, ?_⟩) hS ?_
    · intro w' hSw
      go_simp
    (try simp only [List.getElem_toArray]); (try simp only [List.getElem_cons_succ]); (try simp only [List.getElem_cons_zero]); (try simp only [Act.put]); (try simp only [List.setIfInBounds_toArray]); (try simp only [List.set_cons_succ]); (try simp only [List.set_cons_zero])
    refine wpAnyH_ready (rs := [2]) (by kernel_rfl) (by simp) ?_
    refine AllReadyH.cons (o := _) rfl (fun K hK => ?_) AllReadyH.nil
    rw [if_pos (by rfl)]
    go_simp
    refine hK.out _ _ (Zd.alloc (.cells #[.int .i64 0, .int .i64 1, .int .i64 2, .int .i64 3, .int .i64 4] 2)).at.1 (fun hS => ?_)
    clear hK K
    (try simp only [List.getElem_toArray]); (try simp only [List.getElem_cons_succ]); (try simp only [List.getElem_cons_zero]); (try simp only [Act.put]); (try simp only [List.setIfInBounds_toArray]); (try simp only [List.set_cons_succ]); (try simp only [List.set_cons_zero])
    refine wpAnyH_ready (rs := [3]) (by kernel_rfl) (by simp) ?_
    refine AllReadyH.cons (o := _) rfl (fun K hK => ?_) AllReadyH.nil
    rw [if_pos (by rfl)]
    go_simp
    go_at_call 29
    refine (spec_l1Pick _ a cap zs (0 + j + 1 + j5) _ [0, 1, 2, 3, 4] [w6.heap.size] _ (sd.alloc _) (by omega) (Ints.lit w6.drew _ _ 5 rfl rfl (by omega)) (by simp) (by simp) (by simp at lb ⊢; omega)).mono ?_
    rintro e w11 ⟨oo, rfl, -, s11, o11⟩
    have O11 : Off [w.heap.size + 1] w6.drew w11 := ((Off.refl _ _).alloc _).trans o11
    have z11 := O11.size
    have Z11 := Zd.off O11 (by simp; omega)
    dsimp only
    refine hK.out _ _ Z11.at.1 (fun hS => ?_)
    clear hK K
    (try simp only [List.getElem_toArray]); (try simp only [List.getElem_cons_succ]); (try simp only [List.getElem_cons_zero]); (try simp only [Act.put]); (try simp only [List.setIfInBounds_toArray]); (try simp only [List.set_cons_succ]); (try simp only [List.set_cons_zero])
    refine wpAnyH_ready (rs := [6]) (by kernel_rfl) (by simp) ?_
    refine AllReadyH.cons (o := _) rfl (fun K hK => ?_) AllReadyH.nil
    rw [if_pos (by rfl)]
    go_simp
    go_at_call 30
    refine (spec_l1Next _ a cap zs (0 + j + 1 + j5 + 1) 256 _ s11 (by omega) (by omega)).mono ?_
    rintro e w12 ⟨v1, rfl, -, s12, o12⟩
    have O12 := O11.trans o12
    have Z12 := Zd.off O12 (by simp; omega)
    have z12 := o12.size
    dsimp only
    refine hK.out _ _ Z12.at.1 (fun hS => ?_)
    clear hK K
    (try simp only [List.getElem_toArray]); (try simp only [List.getElem_cons_succ]); (try simp only [List.getElem_cons_zero]); (try simp only [Act.put]); (try simp only [List.setIfInBounds_toArray]); (try simp only [List.set_cons_succ]); (try simp only [List.set_cons_zero])
    refine wpAnyH_ready (rs := [8]) (by kernel_rfl) (by simp) ?_
    refine AllReadyH.cons (o := _) rfl (fun K hK => ?_) AllReadyH.nil
    rw [if_pos (by rfl)]
    go_simp
    go_at_call 30
    refine (spec_l1Next _ a cap zs (0 + j + 1 + j5 + 1 + 1) 256 _ s12 (by omega) (by omega)).mono ?_
    rintro e w13 ⟨v2, rfl, -, s13, o13⟩
    have O13 := O12.trans o13
    have Z13 := Zd.off O13 (by simp; omega)
    have z13 := o13.size
    have l13 := s13.blk.lt
    dsimp only
    refine hK.out _ _ Z13.at.1 (fun hS => ?_)
    clear hK K
    (try simp only [List.getElem_toArray]); (try simp only [List.getElem_cons_succ]); (try simp only [List.getElem_cons_zero]); (try simp only [Act.put]); (try simp only [List.setIfInBounds_toArray]); (try simp only [List.set_cons_succ]); (try simp only [List.set_cons_zero])
    refine wpAnyH_ready (rs := [9]) (by kernel_rfl) (by simp) ?_
    refine AllReadyH.cons (o := _) rfl (fun K hK => ?_) AllReadyH.nil
    rw [if_pos (by rfl)]
    go_simp
    refine hK.out _ _ (Z13.alloc (.cells #[.int .i64 v1, .int .i64 v2, .int .i64 256] 2)).at.1 (fun hS => ?_)
    clear hK K
    (try simp only [List.getElem_toArray]); (try simp only [List.getElem_cons_succ]); (try simp only [List.getElem_cons_zero]); (try simp only [Act.put]); (try simp only [List.setIfInBounds_toArray]); (try simp only [List.set_cons_succ]); (try simp only [List.set_cons_zero])
    refine wpAnyH_ready (rs := [10]) (by kernel_rfl) (by simp) ?_
    refine AllReadyH.cons (o := _) rfl (fun K hK => ?_) AllReadyH.nil
    rw [if_pos (by rfl)]
    go_simp
    go_at_call 29
    refine (spec_l1Pick _ a cap zs (0 + j + 1 + j5 + 1 + 1 + 1) _ [v1, v2, 256] [w13.heap.size] _ (s13.alloc _) (by omega) (Ints.lit w13 _ _ 3 rfl rfl (by omega)) (by simp) (by simp) (by simp; omega)).mono ?_
    rintro e w14 ⟨vv, rfl, -, s14, o14⟩
    have O14 : Off [w.heap.size + 1] w6.drew w14 := (O13.alloc _).trans o14
    have Z14 := Zd.off O14 (by simp; omega)
    have Y14 := Yd.off O14 (by simp)
    have B14 := Bd.trans (O14.toBelow Bd.size (by simp))
    dsimp only
    refine hK.out _ _ Z14.at.1 (fun hS => ?_)
    clear hK K
    (try simp only [List.getElem_toArray]); (try simp only [List.getElem_cons_succ]); (try simp only [List.getElem_cons_zero]); (try simp only [Act.put]); (try simp only [List.setIfInBounds_toArray]); (try simp only [List.set_cons_succ]); (try simp only [List.set_cons_zero])
    refine wpAnyH_ready (rs := [11]) (by kernel_rfl) (by simp) ?_
    refine AllReadyH.cons (o := _) rfl (fun K hK => ?_) AllReadyH.nil
    refine step_store_blk rfl 33 _ _ rfl w.heap.size (#[.slice p07 y.xTape.length c07, .slice p17 y.xUsed.length c17, .int .i64 y.xSent, .slice p27 y.xHeard.length c27, .int .i64 y.xCheat.xWho, .int .i64 y.xCheat.xAt, .int .i64 y.xCheat.xBy, .bool y.xCheat.xCry, .bool y.xQuarrel.xSome, .int .i64 y.xQuarrel.xFrom, .int .i64 y.xQuarrel.xCheck, .int .i64 y.xQuarrel.xTo, .int .i64 y.xQuarrel.xTold, .int .i64 y.xQuarrel.xHeard, .int .i64 y.xQuarrel.xOther, .int .i64 y.xQuarrel.xVowed]) rfl rfl Y14 rfl (by kernel_rfl) (by kernel_rfl) ?_
    intro w20 Y9 O9
    have Z9 := Z14.off O9 (by simp; omega)
    refine hK.out _ _ Z9.at.1 (fun hS => ?_)
    clear hK K
    (try simp only [List.getElem_toArray]); (try simp only [List.getElem_cons_succ]); (try simp only [List.getElem_cons_zero]); (try simp only [Act.put]); (try simp only [List.setIfInBounds_toArray]); (try simp only [List.set_cons_succ]); (try simp only [List.set_cons_zero])
    refine wpAnyH_take (i := 12) (v := .int .i64 oo) rfl (by kernel_rfl) (by kernel_rfl) (by kernel_rfl) (fun _ _ _ h => h) (Or.inl ⟨by rfl, ?_⟩) hS ?_
    · intro w' hSw
      go_simp
    (try simp only [List.getElem_toArray]); (try simp only [List.getElem_cons_succ]); (try simp only [List.getElem_cons_zero]); (try simp only [Act.put]); (try simp only [List.setIfInBounds_toArray]); (try simp only [List.set_cons_succ]); (try simp only [List.set_cons_zero])
    refine wpAnyH_take (i := 13) (v := .int .i64 vv) rfl (by kernel_rfl) (by kernel_rfl) (by kernel_rfl) (fun _ _ _ h => h) (Or.inl ⟨by rfl, ?_⟩) hS ?_
    · intro w' hSw
      go_simp
    (try simp only [List.getElem_toArray]); (try simp only [List.getElem_cons_succ]); (try simp only [List.getElem_cons_zero]); (try simp only [Act.put]); (try simp only [List.setIfInBounds_toArray]); (try simp only [List.set_cons_succ]); (try simp only [List.set_cons_zero])
    refine wpAnyH_done (by kernel_rfl) ?_ _
    clear hS
    have ya := Y9.at.1
    have B9 : Below w.heap.size w w20 := B14.trans (O9.toBelow B14.size (by simp))
    have O14 : Off [w.heap.size + 1] w6 w14 := ⟨O14.os, O14.tape, O14.output, O14.size, O14.block⟩
    go_wp2
    exact bodyPost_ret (v := .tuple #[.agg #[.slice p07 y.xTape.length c07, .slice p17 y.xUsed.length c17, .int .i64 y.xSent, .slice p27 y.xHeard.length c27, .int .i64 y.xCheat.xWho, .int .i64 y.xCheat.xAt, .int .i64 y.xCheat.xBy, .bool y.xCheat.xCry, .bool y.xQuarrel.xSome, .int .i64 y.xQuarrel.xFrom, .int .i64 y.xQuarrel.xCheck, .int .i64 y.xQuarrel.xTo, .int .i64 y.xQuarrel.xTold, .int .i64 y.xQuarrel.xHeard, .int .i64 y.xQuarrel.xOther, .int .i64 y.xQuarrel.xVowed], .int .i64 oo, .int .i64 vv]) (by simp [results, Try.results7, go_sem, ya]) rfl ⟨p07, c07, p17, c17, p27, c27, y, oo, vv, rfl, HR.out w20 [w.heap.size + 1, g, w.heap.size] (((O6.mono (by simp)).trans (O14.mono (by simp))).trans (O9.mono (by simp))) (by simp; omega), HF.out, B9⟩
theorem reads_tail3 {w : World} {g : Nat} {T : TypeId} {a b c : Int} (h : Blk w g T #[.int .i64 a, .int .i64 b, .int .i64 c]) : Reads w .i64 (.slice (some ⟨g, 1, none⟩) 2 2) [b, c] :=
  ⟨_, _, rfl, by simp [maxLen], fun _ => ⟨g, 1, rfl, h.lt, fun i hi => by
    rcases i with _ | _ | i
    · exact h.at.1 1
    · exact h.at.1 2
    · simp at hi; omega⟩⟩
theorem reads_all3 {w : World} {g : Nat} {T : TypeId} {a b c : Int} (h : Blk w g T #[.int .i64 a, .int .i64 b, .int .i64 c]) : Reads w .i64 (.slice (some ⟨g, 0, none⟩) 3 3) [a, b, c] :=
  ⟨_, _, rfl, by simp [maxLen], fun _ => ⟨g, 0, rfl, h.lt, fun i hi => by
    rcases i with _ | _ | _ | i
    · exact h.at.1 0
    · exact h.at.1 1
    · exact h.at.1 2
    · simp at hi; omega⟩⟩
set_option maxHeartbeats 4000000 in
set_option maxRecDepth 100000 in
theorem spec_DrawAgreeInput (a : Option Addr) (cap : Nat) (zs : List Int) (w : World) (hr : Reads w .u8 (.slice a zs.length cap) zs) (hl : zs.length ≤ 1048576) (hb : ∀ i, 0 ≤ zs.getD i 0 ∧ zs.getD i 0 ≤ 255) :
    Calls Try.prog 9 #[.slice a zs.length cap] w fun e w' => ∃ p c, ∃ xs : List Int, e = .returned (.slice p xs.length c) ∧ Reads w' .i64 (.slice p xs.length c) xs ∧ Below w.heap.size w w' := by
  go_enter Try.func9, Try.ntmps9
  go_wp2_with fail
  refine (spec_l1Source a cap zs _ hr hl hb).mono ?_
  rintro e w1 ⟨rfl, s1, hb1⟩
  have l1 := s1.blk.lt
  have B1 : Below w.heap.size w w1 := hb1
  clear hb1
  go_wp2_with fail
  refine (spec_l1Next _ a cap zs (0) 3 _ s1 (by omega) (by omega)).mono ?_
  rintro e w2 ⟨v0, rfl, -, s2, o2⟩
  have B2 := B1.trans (o2.toBelow B1.size (by simp))
  have l2 := s2.blk.lt
  clear o2 s1 B1
  go_wp2_with fail
  refine (spec_l1Next _ a cap zs (0 + 1) 3 _ s2 (by omega) (by omega)).mono ?_
  rintro e w3 ⟨v1, rfl, -, s3, o3⟩
  have B3 := B2.trans (o3.toBelow B2.size (by simp))
  have l3 := s3.blk.lt
  clear o3 s2 B2
  go_wp2_with fail
  refine (spec_l1Next _ a cap zs (0 + 1 + 1) 3 _ s3 (by omega) (by omega)).mono ?_
  rintro e w4 ⟨v2, rfl, -, s4, o4⟩
  have B4 := B3.trans (o4.toBelow B3.size (by simp))
  have l4 := s4.blk.lt
  clear o4 s3 B3
  have I5 : Ints (w4.alloc (.cells #[.int .i64 v0, .int .i64 v1, .int .i64 v2] 2)) (.slice (some ⟨w4.heap.size, 0, none⟩) 3 3) [v0, v1, v2] [w4.heap.size] := Ints.lit w4 _ _ 3 rfl rfl (by omega)
  have X5 := Blk.new w4 2 #[.int .i64 v0, .int .i64 v1, .int .i64 v2]
  have B5 := B4.alloc B4.size (.cells #[.int .i64 v0, .int .i64 v1, .int .i64 v2] 2)
  have hw4 := B4.size
  have s5 := s4.alloc (.cells #[.int .i64 v0, .int .i64 v1, .int .i64 v2] 2)
  clear B4 s4
  go_wp2_with fail
  generalize hg : w4.heap.size = g at *
  generalize hw5 : w4.alloc (.cells #[.int .i64 v0, .int .i64 v1, .int .i64 v2] 2) = w5 at *
  clear hw5
  refine (spec_l1Next _ a cap zs (0 + 1 + 1 + 1) 10 _ s5 (by omega) (by omega)).mono ?_
  rintro e w6 ⟨r, rfl, -, s6, o6⟩
  have I6 := I5.off o6 (by simp; omega)
  have X6 := X5.off o6 (by simp; omega)
  have B6 := B5.trans (o6.toBelow B5.size (by simp))
  clear I5 X5 B5 s5 s6 o6
  by_cases h0 : r = 0
  · have e0 : (r == 0) = true := by simpa using h0
    clear h0
    have c1 : (1 : Int) ≤ 3 := by omega
    go_wp2
    go_ret
    exact ⟨_, _, [v1, v2], rfl, reads_tail3 X6, B6⟩
  · have e0 : (r == 0) = false := by simpa using h0
    clear h0
    by_cases h1 : r = 1
    · have e1 : (r == 1) = true := by simpa using h1
      clear h1
      have xa := X6.at.1
      have xb := X6.at.2
      go_wp2
      go_ret
      exact ⟨_, _, [v0, 256, v2], rfl, reads_all3 (Blk.of_eq (X6.set 1 _) (by simp)), B6.setCell (by omega) _⟩
    · have e1 : (r == 1) = false := by simpa using h1
      clear h1
      go_wp2
      go_ret
      exact ⟨_, _, [v0, v1, v2], rfl, Ints.reads I6, B6⟩
end Go.Proofs.Ytbmemdgeohnpnac
