/-
  Draws of chapters 5 and 6: nets without a fault; what is given, and what three heard.
-/
import Derived.Test.YtepobckhfodngabGreatDraw6
namespace Go.Proofs.YtepobckhfodngabGreat
open Go.ChangeShapes Go.WideShapes Go.ChangeAt Go.RowKit
set_option linter.unusedVariables false

set_option maxHeartbeats 8000000 in
set_option maxRecDepth 100000 in
theorem spec_l5Net (b : Nat) (a : Option Addr) (cap : Nat) (zs : List Int) (k : Nat) (w : World) (hs : Src w b a cap zs k) (hk : k ≤ 800000000) :
    Calls Tryz.prog 25 #[.pointer (some ⟨b, 0, none⟩)] w fun e w' => ∃ u, e = .returned u ∧ BentN w b a cap zs k u w' := by
  have hbl := hs.blk.lt
  have Y0 := Blk.new w 33 #[.slice none 0 0, .slice none 0 0, .int .i64 0, .slice none 0 0, .int .i64 0, .int .i64 0, .int .i64 0, .bool false, .bool false, .int .i64 0, .int .i64 0, .int .i64 0, .int .i64 0, .int .i64 0, .int .i64 0, .int .i64 0]
  have nb : w.heap.size ∉ [b] := fun hm => by simp at hm; omega
  have S0 := hs.alloc (.cells #[.slice none 0 0, .slice none 0 0, .int .i64 0, .slice none 0 0, .int .i64 0, .int .i64 0, .int .i64 0, .bool false, .bool false, .int .i64 0, .int .i64 0, .int .i64 0, .int .i64 0, .int .i64 0, .int .i64 0, .int .i64 0] 33)
  have O0 : Off [b] w (w.alloc (.cells #[.slice none 0 0, .slice none 0 0, .int .i64 0, .slice none 0 0, .int .i64 0, .int .i64 0, .int .i64 0, .bool false, .bool false, .int .i64 0, .int .i64 0, .int .i64 0, .int .i64 0, .int .i64 0, .int .i64 0, .int .i64 0] 33)) := (Off.refl _ _).alloc _
  have hz0 : (w.alloc (.cells #[.slice none 0 0, .slice none 0 0, .int .i64 0, .slice none 0 0, .int .i64 0, .int .i64 0, .int .i64 0, .bool false, .bool false, .int .i64 0, .int .i64 0, .int .i64 0, .int .i64 0, .int .i64 0, .int .i64 0, .int .i64 0] 33)).heap.size = w.heap.size + 1 := by simp
  clear hs
  go_enter Tryz.func25, Tryz.ntmps25
  go_wp2_with fail
  refine (spec_l4Draw b a cap zs k _ S0 (by omega)).mono ?_
  rintro e w1 ⟨q0, d0, q1, d1, q2, d2, xs, us, ch, sent, b0, b1, b2, rfl, T1, U1, H1, j01, j02, j12, hD, hul, f0, f1, f2, ⟨j, hj, s1⟩, o1⟩
  rw [hz0] at f0 f1 f2
  have Y1 := Y0.off o1 nb
  have O1 := O0.trans o1
  have z1 := o1.size
  rw [hz0] at z1
  have HD : Hid (TapeD xs) := hD
  have HL : Hid (xs.length = 4) := hD.1
  have HU : Hid (us.length = 4) := hul
  clear hD hul Y0 S0 O0 o1 hz0
  have Zn := Blk.new w1 33 #[.slice none 0 0, .slice none 0 0, .int .i64 0, .slice none 0 0, .int .i64 0, .int .i64 0, .int .i64 0, .bool false, .bool false, .int .i64 0, .int .i64 0, .int .i64 0, .int .i64 0, .int .i64 0, .int .i64 0, .int .i64 0]
  go_wp2_with (refine wpList_store_blk rfl 33 _ _ rfl w1.heap.size (#[.slice q0 4 d0, .slice q1 4 d1, .int .i64 sent, .slice q2 4 d2, .int .i64 ch.xWho, .int .i64 ch.xAt, .int .i64 ch.xBy, .bool ch.xCry, .bool false, .int .i64 0, .int .i64 0, .int .i64 0, .int .i64 0, .int .i64 0, .int .i64 0, .int .i64 0]) rfl rfl Zn rfl (by kernel_rfl) (by kernel_rfl) ?_; intro w2 Z2 O2)
  have O2' : ∀ y, y < w1.heap.size → y ∉ [w1.heap.size] := fun y hy hm => by simp at hm; omega
  have Y2 := (Y1.alloc (.cells #[.slice none 0 0, .slice none 0 0, .int .i64 0, .slice none 0 0, .int .i64 0, .int .i64 0, .int .i64 0, .bool false, .bool false, .int .i64 0, .int .i64 0, .int .i64 0, .int .i64 0, .int .i64 0, .int .i64 0, .int .i64 0] 33)).off O2 (O2' _ Y1.lt)
  have T2 := (T1.alloc (.cells #[.slice none 0 0, .slice none 0 0, .int .i64 0, .slice none 0 0, .int .i64 0, .int .i64 0, .int .i64 0, .bool false, .bool false, .int .i64 0, .int .i64 0, .int .i64 0, .int .i64 0, .int .i64 0, .int .i64 0, .int .i64 0] 33)).off O2 (fun y hy => O2' y (T1.lt y hy))
  have U2 := (Ints.alloc U1 (.cells #[.slice none 0 0, .slice none 0 0, .int .i64 0, .slice none 0 0, .int .i64 0, .int .i64 0, .int .i64 0, .bool false, .bool false, .int .i64 0, .int .i64 0, .int .i64 0, .int .i64 0, .int .i64 0, .int .i64 0, .int .i64 0] 33)).off O2 (fun y hy => O2' y (U1.lt y hy))
  have H2 := (H1.alloc (.cells #[.slice none 0 0, .slice none 0 0, .int .i64 0, .slice none 0 0, .int .i64 0, .int .i64 0, .int .i64 0, .bool false, .bool false, .int .i64 0, .int .i64 0, .int .i64 0, .int .i64 0, .int .i64 0, .int .i64 0, .int .i64 0] 33)).off O2 (fun y hy => O2' y (H1.lt y hy))
  have s2 := (s1.alloc (.cells #[.slice none 0 0, .slice none 0 0, .int .i64 0, .slice none 0 0, .int .i64 0, .int .i64 0, .int .i64 0, .bool false, .bool false, .int .i64 0, .int .i64 0, .int .i64 0, .int .i64 0, .int .i64 0, .int .i64 0, .int .i64 0] 33)).off O2 (fun y hy => by simp at hy; omega)
  have P2 : Off [b] w w2 := (O1.alloc (.cells #[.slice none 0 0, .slice none 0 0, .int .i64 0, .slice none 0 0, .int .i64 0, .int .i64 0, .int .i64 0, .bool false, .bool false, .int .i64 0, .int .i64 0, .int .i64 0, .int .i64 0, .int .i64 0, .int .i64 0, .int .i64 0] 33)).fresh O2 (fun y hy => by simp at hy; omega)
  have n0 : w1.heap.size ∉ b0 := fun h => Nat.lt_irrefl _ (T1.lt _ h)
  have n1 : w1.heap.size ∉ b1 := fun h => Nat.lt_irrefl _ (U1.lt _ h)
  have n2 : w1.heap.size ∉ b2 := fun h => Nat.lt_irrefl _ (H1.lt _ h)
  clear Zn Y1 T1 U1 H1 s1 O1 O2 O2'
  generalize w1.heap.size = g at *
  go_wp2_with fail
  refine (spec_l1Chance b a cap zs (k + j) 2 _ s2 (by omega) (by omega)).mono ?_
  rintro e w3 ⟨r, rfl, s3, o3⟩
  have Y3 := Y2.off o3 nb
  have Z3 := Z2.off o3 (by simp; omega)
  have T3 := T2.off o3 (fun y hy hm => by have := f0 y hy; simp at hm; omega)
  have U3 := U2.off o3 (fun y hy hm => by have := f1 y hy; simp at hm; omega)
  have H3 := H2.off o3 (fun y hy hm => by have := f2 y hy; simp at hm; omega)
  have P3 := P2.trans o3
  have lg := Z3.lt
  clear Y2 Z2 T2 U2 H2 s2 P2 o3
  cases r
  · have RR : Hid (∀ V cs, Off cs w3 V → (∀ z ∈ cs, z ≤ w.heap.size) → RdNet V (.agg #[.slice q0 4 d0, .slice q1 4 d1, .int .i64 sent, .slice q2 4 d2, .int .i64 ch.xWho, .int .i64 ch.xAt, .int .i64 ch.xBy, .bool ch.xCry, .bool false, .int .i64 0, .int .i64 0, .int .i64 0, .int .i64 0, .int .i64 0, .int .i64 0, .int .i64 0]) (⟨xs, us, sent, [[], [], [], []], ch, ⟨false, 0, 0, 0, 0, 0, 0, 0⟩⟩ : MNet)) := fun V cs o h => ⟨q0, d0, q1, d1, q2, d2, by dsimp only; rw [HL.out, HU.out]; rfl, (by dsimp only; rw [HL.out]; exact (T3.off o (fun y hy hm => by have := f0 y hy; have := h y hm; omega)).reads), (by dsimp only; rw [HU.out]; exact Ints.reads (U3.off o (fun y hy hm => by have := f1 y hy; have := h y hm; omega))), (H3.off o (fun y hy hm => by have := f2 y hy; have := h y hm; omega)).reads⟩
    have HF : Hid (Fit (⟨xs, us, sent, [[], [], [], []], ch, ⟨false, 0, 0, 0, 0, 0, 0, 0⟩⟩ : MNet)) := fitN HD.out.b (by rw [HU.out]; omega) (by simp) four_rows
    go_wp2_with (first | (refine wpList_load_blk rfl 33 _ rfl g rfl Z3 Tryz.underlying33 rfl (by kernel_rfl) ?_) | (refine wpList_store_blk rfl 33 _ _ rfl w.heap.size (#[.slice q0 4 d0, .slice q1 4 d1, .int .i64 sent, .slice q2 4 d2, .int .i64 ch.xWho, .int .i64 ch.xAt, .int .i64 ch.xBy, .bool ch.xCry, .bool false, .int .i64 0, .int .i64 0, .int .i64 0, .int .i64 0, .int .i64 0, .int .i64 0, .int .i64 0]) rfl rfl Y3 rfl (by kernel_rfl) (by kernel_rfl) ?_; intro w9 Y9 O9))
    exact bodyPost_ret (v := .agg #[.slice q0 4 d0, .slice q1 4 d1, .int .i64 sent, .slice q2 4 d2, .int .i64 ch.xWho, .int .i64 ch.xAt, .int .i64 ch.xBy, .bool ch.xCry, .bool false, .int .i64 0, .int .i64 0, .int .i64 0, .int .i64 0, .int .i64 0, .int .i64 0, .int .i64 0]) (results_blk Tryz.results25 rfl Y9 Tryz.underlying33 rfl (by kernel_rfl)) rfl ⟨_, rfl, _, fun V cs o h => RR.out V ([w.heap.size] ++ cs) ((O9.mono (fun y hy => List.mem_append_left _ hy)).trans (o.mono (fun y hy => List.mem_append_right _ hy))) (fun z hz => by rcases List.mem_append.1 hz with h' | h'; (simp at h'; omega); (have := h z h'; omega)), HF.out, ⟨j + 1, by omega, (by have hsrc := s3.off O9 (fun y hy => by simp at hy; omega); simpa only [Nat.add_assoc] using hsrc)⟩, P3.fresh O9 (fun y hy => by simp at hy; omega)⟩
  · have za := Z3.at.1
    have zb := Z3.at.2
    have O5 : Off [g] w3 ((((w3.setCell ⟨g, 4, none⟩ (.int .i64 (-1))).setCell ⟨g, 5, none⟩ (.int .i64 0)).setCell ⟨g, 6, none⟩ (.int .i64 0)).setCell ⟨g, 7, none⟩ (.bool false)) := (((((Off.refl _ _).setCell _ _ (by simp)).setCell _ _ (by simp)).setCell _ _ (by simp)).setCell _ _ (by simp))
    have Z5 : Blk ((((w3.setCell ⟨g, 4, none⟩ (.int .i64 (-1))).setCell ⟨g, 5, none⟩ (.int .i64 0)).setCell ⟨g, 6, none⟩ (.int .i64 0)).setCell ⟨g, 7, none⟩ (.bool false)) g 33 #[.slice q0 4 d0, .slice q1 4 d1, .int .i64 sent, .slice q2 4 d2, .int .i64 (-1), .int .i64 0, .int .i64 0, .bool false, .bool false, .int .i64 0, .int .i64 0, .int .i64 0, .int .i64 0, .int .i64 0, .int .i64 0, .int .i64 0] := Blk.of_eq ((((Z3.set 4 _).set 5 _).set 6 _).set 7 _) (by simp)
    have Y5 := Y3.off O5 (by simp; omega)
    have T5 := T3.off O5 (fun y hy hm => by simp at hm; exact n0 (hm ▸ hy))
    have U5 := U3.off O5 (fun y hy hm => by simp at hm; exact n1 (hm ▸ hy))
    have H5 := H3.off O5 (fun y hy hm => by simp at hm; exact n2 (hm ▸ hy))
    have s5 := s3.off O5 (fun y hy => by simp at hy; omega)
    have P5 := P3.fresh O5 (fun y hy => by simp at hy; omega)
    clear Y3 Z3 T3 U3 H3 s3 P3
    have RR : Hid (∀ V cs, Off cs ((((w3.setCell ⟨g, 4, none⟩ (.int .i64 (-1))).setCell ⟨g, 5, none⟩ (.int .i64 0)).setCell ⟨g, 6, none⟩ (.int .i64 0)).setCell ⟨g, 7, none⟩ (.bool false)) V → (∀ z ∈ cs, z ≤ w.heap.size) → RdNet V (.agg #[.slice q0 4 d0, .slice q1 4 d1, .int .i64 sent, .slice q2 4 d2, .int .i64 (-1), .int .i64 0, .int .i64 0, .bool false, .bool false, .int .i64 0, .int .i64 0, .int .i64 0, .int .i64 0, .int .i64 0, .int .i64 0, .int .i64 0]) (⟨xs, us, sent, [[], [], [], []], ⟨-1, 0, 0, false⟩, ⟨false, 0, 0, 0, 0, 0, 0, 0⟩⟩ : MNet)) := fun V cs o h => ⟨q0, d0, q1, d1, q2, d2, by dsimp only; rw [HL.out, HU.out]; rfl, (by dsimp only; rw [HL.out]; exact (T5.off o (fun y hy hm => by have := f0 y hy; have := h y hm; omega)).reads), (by dsimp only; rw [HU.out]; exact Ints.reads (U5.off o (fun y hy hm => by have := f1 y hy; have := h y hm; omega))), (H5.off o (fun y hy hm => by have := f2 y hy; have := h y hm; omega)).reads⟩
    have HF : Hid (Fit (⟨xs, us, sent, [[], [], [], []], ⟨-1, 0, 0, false⟩, ⟨false, 0, 0, 0, 0, 0, 0, 0⟩⟩ : MNet)) := fitN HD.out.b (by rw [HU.out]; omega) (by simp) four_rows
    go_wp2_with (first | (refine wpList_load_blk rfl 33 _ rfl g rfl Z5 Tryz.underlying33 rfl (by kernel_rfl) ?_) | (refine wpList_store_blk rfl 33 _ _ rfl w.heap.size (#[.slice q0 4 d0, .slice q1 4 d1, .int .i64 sent, .slice q2 4 d2, .int .i64 (-1), .int .i64 0, .int .i64 0, .bool false, .bool false, .int .i64 0, .int .i64 0, .int .i64 0, .int .i64 0, .int .i64 0, .int .i64 0, .int .i64 0]) rfl rfl Y5 rfl (by kernel_rfl) (by kernel_rfl) ?_; intro w9 Y9 O9))
    exact bodyPost_ret (v := .agg #[.slice q0 4 d0, .slice q1 4 d1, .int .i64 sent, .slice q2 4 d2, .int .i64 (-1), .int .i64 0, .int .i64 0, .bool false, .bool false, .int .i64 0, .int .i64 0, .int .i64 0, .int .i64 0, .int .i64 0, .int .i64 0, .int .i64 0]) (results_blk Tryz.results25 rfl Y9 Tryz.underlying33 rfl (by kernel_rfl)) rfl ⟨_, rfl, _, fun V cs o h => RR.out V ([w.heap.size] ++ cs) ((O9.mono (fun y hy => List.mem_append_left _ hy)).trans (o.mono (fun y hy => List.mem_append_right _ hy))) (fun z hz => by rcases List.mem_append.1 hz with h' | h'; (simp at h'; omega); (have := h z h'; omega)), HF.out, ⟨j + 1, by omega, (by have hsrc := s5.off O9 (fun y hy => by simp at hy; omega); simpa only [Nat.add_assoc] using hsrc)⟩, P5.fresh O9 (fun y hy => by simp at hy; omega)⟩
theorem reads_tail3 {w : World} {g : Nat} {T : TypeId} {a b c : Int} (h : Blk w g T #[.int .i64 a, .int .i64 b, .int .i64 c]) : Reads w .i64 (.slice (some ⟨g, 1, none⟩) 2 2) [b, c] :=
  ⟨_, _, rfl, by simp [maxLen], fun _ => ⟨g, 1, rfl, h.lt, fun i hi => by
    rcases i with _ | _ | i
    · exact h.at.1 1
    · exact h.at.1 2
    · simp at hi; omega⟩⟩
theorem reads_all3 {w : World} {g : Nat} {T : TypeId} {a b c : Int} (h : Blk w g T #[.int .i64 a, .int .i64 b, .int .i64 c]) : Reads w .i64 (.slice (some ⟨g, 0, none⟩) 3 3) [a, b, c] :=
  ⟨_, _, rfl, by simp [maxLen], fun _ => ⟨g, 0, rfl, h.lt, fun i hi => by
    rcases i with _ | _ | _ | i
    · exact h.at.1 0
    · exact h.at.1 1
    · exact h.at.1 2
    · simp at hi; omega⟩⟩
end Go.Proofs.YtepobckhfodngabGreat
