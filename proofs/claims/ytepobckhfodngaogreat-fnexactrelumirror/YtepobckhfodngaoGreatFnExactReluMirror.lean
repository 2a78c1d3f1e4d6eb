/-
  FnExactReluMirror answers true at every net and every mirror: the program's ReluMirror answers as its model does, writes into no argument, and each answer owns its memory.
-/
import Derived.Test.YtepobckhfodngaoGreatRlI
import Derived.Test.YtepobckhfodngaoGreatRlT
import Derived.Test.YtepobckhfodngaoGreatOpen
import Derived.Test.YtepobckhfodngaoGreatWhole
import Derived.Test.YtepobckhfodngaoGreatRow
import Derived.Test.YtepobckhfodngaoGreatOpen
import Derived.Test.YtepobckhfodngaoGreatOpen
import Derived.Deep.RegionHeld3
import Derived.Deep.CutRange
import Derived.Deep.Cut
import Derived.Deep.RegionWith
import Derived.ShutString
import Derived.ChangeOld
import Derived.Below
namespace Go.Proofs.YtepobckhfodngaoGreat.fnExactReluMirror
open Go.ChangeShapes Go.WideShapes Go.ChangeAt Go.RowKit
open Go.ChangeMaps (open_string shut_string)
set_option linter.unusedVariables false

theorem own : ownKnob Tryz.prog.godebug = none := by kernel_rfl
theorem laidOut : laidOutB Tryz.prog = true := by kernel_rfl

set_option maxHeartbeats 8000000 in
set_option maxRecDepth 100000 in
theorem walk (v0 : Value) (x0 : MNet) (v1 : Value) (x1 : MMirror) (w : World) (r0 : RdNet w (v0) x0) (r1 : RdMirror w (v1) x1) :
    Calls Tryz.prog 3 #[v0, v1] w fun e w' => e = .returned (.bool true) ∧ Below w.heap.size w w' := by
  obtain ⟨cs0, hv, RC0⟩ := r0.row
  subst hv
  obtain ⟨cs1, hv, RC1⟩ := r1.row
  subst hv
  by_cases s0 : (1048576 : Int) < (totNet x0 : Nat)
  · skip
    go_enter Tryz.func3, Tryz.ntmps3
    have X0 : Blk ((w.alloc (.cells cs0 31)).alloc (.cells cs1 33)) w.heap.size 31 cs0 := by simpa using ((Blk.new w 31 cs0).alloc (.cells cs1 33))
    have X1 : Blk ((w.alloc (.cells cs0 31)).alloc (.cells cs1 33)) (w.heap.size + 1) 33 cs1 := by simpa using (Blk.new (w.alloc (.cells cs0 31)) 33 cs1)
    go_wp2_with (first | (refine wpList_load_blkg (by rfl) 31 _ rfl w.heap.size rfl X0 Tryz.underlying31 rfl (RC0.hi (by kernel_rfl)) ?_) | (refine wpList_load_blkg (by rfl) 33 _ rfl (w.heap.size + 1) rfl X1 Tryz.underlying33 rfl (RC1.hi (by kernel_rfl)) ?_))
    refine Calls.at (F := fun V => Blk V w.heap.size 31 cs0 ∧ Blk V (w.heap.size + 1) 33 cs1 ∧ Below w.heap.size w V) ⟨X0, X1, (by repeat (first | exact Below.refl _ _ | refine Below.drew ?_ | refine below_drewN ?_ _ | refine Below.setCell ?_ (by first | omega | (simp; done) | (simp; omega)) _ | refine Below.alloc ?_ (by first | omega | (simp; done) | (simp; omega)) _))⟩ ?_
    clear X0 X1
    rintro V0 ⟨X0, X1, B⟩
    refine (szNet_over _ x0 _ _ (by exact r0.below B) (by omega) (by omega) (by omega)).mono ?_
    rintro e w1 ⟨rfl, hb1⟩
    replace B := B.trans (hb1.mono B.size)
    go_wp2
    go_ret
    exact ⟨rfl, B⟩
  by_cases s1 : (1048576 - (totNet x0 : Nat) : Int) < (totMirror x1 : Nat)
  · skip
    go_enter Tryz.func3, Tryz.ntmps3
    have X0 : Blk ((w.alloc (.cells cs0 31)).alloc (.cells cs1 33)) w.heap.size 31 cs0 := by simpa using ((Blk.new w 31 cs0).alloc (.cells cs1 33))
    have X1 : Blk ((w.alloc (.cells cs0 31)).alloc (.cells cs1 33)) (w.heap.size + 1) 33 cs1 := by simpa using (Blk.new (w.alloc (.cells cs0 31)) 33 cs1)
    go_wp2_with (first | (refine wpList_load_blkg (by rfl) 31 _ rfl w.heap.size rfl X0 Tryz.underlying31 rfl (RC0.hi (by kernel_rfl)) ?_) | (refine wpList_load_blkg (by rfl) 33 _ rfl (w.heap.size + 1) rfl X1 Tryz.underlying33 rfl (RC1.hi (by kernel_rfl)) ?_))
    refine Calls.at (F := fun V => Blk V w.heap.size 31 cs0 ∧ Blk V (w.heap.size + 1) 33 cs1 ∧ Below w.heap.size w V) ⟨X0, X1, (by repeat (first | exact Below.refl _ _ | refine Below.drew ?_ | refine below_drewN ?_ _ | refine Below.setCell ?_ (by first | omega | (simp; done) | (simp; omega)) _ | refine Below.alloc ?_ (by first | omega | (simp; done) | (simp; omega)) _))⟩ ?_
    clear X0 X1
    rintro V0 ⟨X0, X1, B⟩
    refine (szNet_fit _ x0 _ _ (by exact r0.below B) (by omega) (by omega) (by omega)).mono ?_
    rintro e w2 ⟨rfl, hb2⟩
    replace X0 := X0.keep hb2
    replace X1 := X1.keep hb2
    replace B := B.trans (hb2.mono B.size)
    clear hb2
    go_wp2_with (first | (refine wpList_load_blkg (by rfl) 31 _ rfl w.heap.size rfl X0 Tryz.underlying31 rfl (RC0.hi (by kernel_rfl)) ?_) | (refine wpList_load_blkg (by rfl) 33 _ rfl (w.heap.size + 1) rfl X1 Tryz.underlying33 rfl (RC1.hi (by kernel_rfl)) ?_))
    refine (szMirror_over _ x1 _ _ (by exact r1.below B) (by omega) (by omega) (by omega)).mono ?_
    rintro e w3 ⟨rfl, hb3⟩
    replace B := B.trans (hb3.mono B.size)
    go_wp2
    go_ret
    exact ⟨rfl, B⟩
  have hc0 := cntNet_le x0
  have hc1 := cntMirror_le x1
  have KS : ∀ (V : World) (u0 : Value) (u1 : Value), RdNet V (u0) x0 → RdMirror V (u1) x1 → Calls Tryz.prog 7 #[u0, u1] V fun e V' => ∃ u b0 b1 b2 b3, e = .returned u ∧ OwMixResult V' (u) (rlR x0 x1) b0 b1 b2 b3 ∧ (∀ y ∈ b0, V.heap.size ≤ y) ∧ (∀ y ∈ b1, V.heap.size ≤ y) ∧ (∀ y ∈ b2, V.heap.size ≤ y) ∧ (∀ y ∈ b3, V.heap.size ≤ y) ∧ Below V.heap.size V V' := fun V u0 u1 h0 h1 => spec_ReluMirror _ _ _ _ _ h0 (Fit.of_tot (by omega)) h1
  have KI : ∀ (V : World) (u0 : Value) (u1 : Value), RdNet V (u0) x0 → RdMirror V (u1) x1 → Calls Tryz.prog 10 #[u0, u1] V fun e V' => ∃ u b0 b1 b2 b3, e = .returned u ∧ OwMixResult V' (u) (rlR x0 x1) b0 b1 b2 b3 ∧ (∀ y ∈ b0, V.heap.size ≤ y) ∧ (∀ y ∈ b1, V.heap.size ≤ y) ∧ (∀ y ∈ b2, V.heap.size ≤ y) ∧ (∀ y ∈ b3, V.heap.size ≤ y) ∧ Below V.heap.size V V' := fun V u0 u1 h0 h1 => impl_ReluMirror _ _ _ _ _ h0 (Fit.of_tot (by omega)) h1
  obtain ⟨r, HS, HI, hcr⟩ : ∃ r : MMixResult, Hid (∀ (V : World) (u0 : Value) (u1 : Value), RdNet V (u0) x0 → RdMirror V (u1) x1 → Calls Tryz.prog 7 #[u0, u1] V fun e V' => ∃ u b0 b1 b2 b3, e = .returned u ∧ OwMixResult V' (u) r b0 b1 b2 b3 ∧ (∀ y ∈ b0, V.heap.size ≤ y) ∧ (∀ y ∈ b1, V.heap.size ≤ y) ∧ (∀ y ∈ b2, V.heap.size ≤ y) ∧ (∀ y ∈ b3, V.heap.size ≤ y) ∧ Below V.heap.size V V') ∧ Hid (∀ (V : World) (u0 : Value) (u1 : Value), RdNet V (u0) x0 → RdMirror V (u1) x1 → Calls Tryz.prog 10 #[u0, u1] V fun e V' => ∃ u b0 b1 b2 b3, e = .returned u ∧ OwMixResult V' (u) r b0 b1 b2 b3 ∧ (∀ y ∈ b0, V.heap.size ≤ y) ∧ (∀ y ∈ b1, V.heap.size ≤ y) ∧ (∀ y ∈ b2, V.heap.size ≤ y) ∧ (∀ y ∈ b3, V.heap.size ≤ y) ∧ Below V.heap.size V V') ∧ cntMixResult r ≤ 268435456 := ⟨rlR x0 x1, KS, KI, rlR_cnt x0 x1 (by omega)⟩
  clear KS KI
  go_enter Tryz.func3, Tryz.ntmps3
  have X0 : Blk ((w.alloc (.cells cs0 31)).alloc (.cells cs1 33)) w.heap.size 31 cs0 := by simpa using ((Blk.new w 31 cs0).alloc (.cells cs1 33))
  have X1 : Blk ((w.alloc (.cells cs0 31)).alloc (.cells cs1 33)) (w.heap.size + 1) 33 cs1 := by simpa using (Blk.new (w.alloc (.cells cs0 31)) 33 cs1)
  go_wp2_with (first | (refine wpList_load_blkg (by rfl) 31 _ rfl w.heap.size rfl X0 Tryz.underlying31 rfl (RC0.hi (by kernel_rfl)) ?_) | (refine wpList_load_blkg (by rfl) 33 _ rfl (w.heap.size + 1) rfl X1 Tryz.underlying33 rfl (RC1.hi (by kernel_rfl)) ?_))
  refine Calls.at (F := fun V => Blk V w.heap.size 31 cs0 ∧ Blk V (w.heap.size + 1) 33 cs1 ∧ Below w.heap.size w V) ⟨X0, X1, (by repeat (first | exact Below.refl _ _ | refine Below.drew ?_ | refine below_drewN ?_ _ | refine Below.setCell ?_ (by first | omega | (simp; done) | (simp; omega)) _ | refine Below.alloc ?_ (by first | omega | (simp; done) | (simp; omega)) _))⟩ ?_
  clear X0 X1
  rintro V0 ⟨X0, X1, B⟩
  refine (szNet_fit _ x0 _ _ (by exact r0.below B) (by omega) (by omega) (by omega)).mono ?_
  rintro e w4 ⟨rfl, hb4⟩
  replace X0 := X0.keep hb4
  replace X1 := X1.keep hb4
  replace B := B.trans (hb4.mono B.size)
  (try replace NB := NB.keep hb4)
  clear hb4
  go_wp2_with (first | (refine wpList_load_blkg (by rfl) 31 _ rfl w.heap.size rfl X0 Tryz.underlying31 rfl (RC0.hi (by kernel_rfl)) ?_) | (refine wpList_load_blkg (by rfl) 33 _ rfl (w.heap.size + 1) rfl X1 Tryz.underlying33 rfl (RC1.hi (by kernel_rfl)) ?_))
  refine (szMirror_fit _ x1 _ _ (by exact r1.below B) (by omega) (by omega) (by omega)).mono ?_
  rintro e w5 ⟨rfl, hb5⟩
  replace X0 := X0.keep hb5
  replace X1 := X1.keep hb5
  replace B := B.trans (hb5.mono B.size)
  (try replace NB := NB.keep hb5)
  clear hb5
  go_wp2_with fail
  (try simp only [Act.put])
  go_cut [6] from 14 (fun s wr => ∃ nz cs_w0 bw0_0 bw0_1 bw0_2 bw0_3, s = .pointer (some ⟨nz, 0, none⟩) ∧ Blk wr w.heap.size 31 cs0 ∧ Blk wr (w.heap.size + 1) 33 cs1 ∧ Below w.heap.size w wr ∧ OwMixResult wr (.agg cs_w0) r bw0_0 bw0_1 bw0_2 bw0_3 ∧ Rw 19 cs_w0 ∧ Blk wr nz 43 cs_w0 ∧ w.heap.size ∉ (bw0_0 ++ (bw0_1 ++ (bw0_2 ++ bw0_3))) ∧ (w.heap.size + 1) ∉ (bw0_0 ++ (bw0_1 ++ (bw0_2 ++ bw0_3))) ∧ (∀ y ∈ (bw0_0 ++ (bw0_1 ++ (bw0_2 ++ bw0_3))), w.heap.size ≤ y) ∧ nz ∉ (bw0_0 ++ (bw0_1 ++ (bw0_2 ++ bw0_3))))
  case first =>
    refine wp_region_held (S := fun V => Blk V w.heap.size 31 cs0 ∧ Blk V (w.heap.size + 1) 33 cs1) (by kernel_rfl) ?_
    try (change wpAnyH _ _ _ _ _ _ _ _ (World.drew _))
    have hS : (fun V => Blk V w.heap.size 31 cs0 ∧ Blk V (w.heap.size + 1) 33 cs1) _ := ⟨X0.drew, X1.drew⟩
    replace X0 := X0.drew
    replace X1 := X1.drew
    replace B := B.drew
    refine wpAnyH_take (i := 0) (v := _) rfl (by kernel_rfl) (by kernel_rfl) (by kernel_rfl) (fun _ _ _ h => h) (yieldsIf_load_mid (by rfl) _ _ rfl _ _ rfl _ _ (fun _ h => h.1.range) Tryz.underlying31 rfl (by simpa using (RC0.hi (by kernel_rfl)))) hS ?_
    (try simp only [List.getElem_toArray]); (try simp only [List.getElem_cons_succ]); (try simp only [List.getElem_cons_zero]); (try simp only [Act.put]); (try simp only [List.setIfInBounds_toArray]); (try simp only [List.set_cons_succ]); (try simp only [List.set_cons_zero])
    refine wpAnyH_take (i := 2) (v := _) rfl (by kernel_rfl) (by kernel_rfl) (by kernel_rfl) (fun _ _ _ h => h) (yieldsIf_load_mid (by rfl) _ _ rfl _ _ rfl _ _ (fun _ h => h.2.range) Tryz.underlying33 rfl (by simpa using (RC1.hi (by kernel_rfl)))) hS ?_
    (try simp only [List.getElem_toArray]); (try simp only [List.getElem_cons_succ]); (try simp only [List.getElem_cons_zero]); (try simp only [Act.put]); (try simp only [List.setIfInBounds_toArray]); (try simp only [List.set_cons_succ]); (try simp only [List.set_cons_zero])
    refine wpAnyH_ready (rs := [1, 5]) (by kernel_rfl) (by simp) ?_
    refine AllReadyH.cons (o := _) rfl (fun K hK => ?_) (AllReadyH.cons (o := _) rfl (fun K hK => ?_) AllReadyH.nil)
    · rw [if_pos (by rfl)]
      go_simp
      go_at_call 8
      refine (toNet_ow _ x0 _ (by exact r0.below B) (by omega)).mono ?_
      rintro e w6 ⟨u, bw0a0_0, bw0a0_1, bw0a0_2, rfl, w0a0, fw0a0_0, fw0a0_1, fw0a0_2, hb6⟩
      obtain ⟨cs_w0a0, e_w0a0, R_w0a0⟩ := w0a0.row
      subst e_w0a0
      have F_w0a0 : ∀ y ∈ (bw0a0_0 ++ (bw0a0_1 ++ bw0a0_2)), w5.drew.heap.size ≤ y := all_app fw0a0_0 (all_app fw0a0_1 fw0a0_2)
      (try have nbk_w0a0 : _ ∉ (bw0a0_0 ++ (bw0a0_1 ++ bw0a0_2)) := fun hm => Nat.not_lt.2 (F_w0a0 _ hm) NB.lt)
      have nb_X0_w0a0 : w.heap.size ∉ (bw0a0_0 ++ (bw0a0_1 ++ bw0a0_2)) := fun hm => Nat.not_lt.2 (F_w0a0 _ hm) X0.lt
      have nb_X1_w0a0 : (w.heap.size + 1) ∉ (bw0a0_0 ++ (bw0a0_1 ++ bw0a0_2)) := fun hm => Nat.not_lt.2 (F_w0a0 _ hm) X1.lt
      have G_w0a0 : ∀ y ∈ (bw0a0_0 ++ (bw0a0_1 ++ bw0a0_2)), w.heap.size ≤ y := fun y hy => Nat.le_trans B.size (F_w0a0 y hy)
      clear F_w0a0
      (try replace NB := NB.keep hb6)
      replace X0 := X0.keep hb6
      replace X1 := X1.keep hb6
      replace B := B.trans (hb6.mono B.size)
      clear hb6 fw0a0_0 fw0a0_1 fw0a0_2
      (try dsimp only)
      refine hK.out _ _ ⟨X0, X1⟩ (fun hS => ?_)
      clear hK K
      (try simp only [List.getElem_toArray]); (try simp only [List.getElem_cons_succ]); (try simp only [List.getElem_cons_zero]); (try simp only [Act.put]); (try simp only [List.setIfInBounds_toArray]); (try simp only [List.set_cons_succ]); (try simp only [List.set_cons_zero])
      refine wpAnyH_ready (rs := [3, 5]) (by kernel_rfl) (by simp) ?_
      refine AllReadyH.cons (o := _) rfl (fun K hK => ?_) (AllReadyH.cons (o := _) rfl (fun K hK => ?_) AllReadyH.nil)
      · rw [if_pos (by rfl)]
        go_simp
        go_at_call 9
        refine (toMirror_ow _ x1 _ (by exact r1.below B) (by omega)).mono ?_
        rintro e w7 ⟨u, bw0a1_0, rfl, w0a1, fw0a1_0, hb7⟩
        obtain ⟨cs_w0a1, e_w0a1, R_w0a1⟩ := w0a1.row
        subst e_w0a1
        have F_w0a1 : ∀ y ∈ bw0a1_0, w6.heap.size ≤ y := fw0a1_0
        (try have nbk_w0a1 : _ ∉ bw0a1_0 := fun hm => Nat.not_lt.2 (F_w0a1 _ hm) NB.lt)
        have dj_w0a0_w0a1 : Dj (bw0a0_0 ++ (bw0a0_1 ++ bw0a0_2)) bw0a1_0 := fun y hy hm => Nat.not_lt.2 (F_w0a1 y hm) (w0a0.lt y hy)
        have nb_X0_w0a1 : w.heap.size ∉ bw0a1_0 := fun hm => Nat.not_lt.2 (F_w0a1 _ hm) X0.lt
        have nb_X1_w0a1 : (w.heap.size + 1) ∉ bw0a1_0 := fun hm => Nat.not_lt.2 (F_w0a1 _ hm) X1.lt
        have G_w0a1 : ∀ y ∈ bw0a1_0, w.heap.size ≤ y := fun y hy => Nat.le_trans B.size (F_w0a1 y hy)
        clear F_w0a1
        (try replace NB := NB.keep hb7)
        replace X0 := X0.keep hb7
        replace X1 := X1.keep hb7
        replace w0a0 := w0a0.keep hb7
        replace B := B.trans (hb7.mono B.size)
        clear hb7 fw0a1_0
        (try dsimp only)
        refine hK.out _ _ ⟨X0, X1⟩ (fun hS => ?_)
        clear hK K
        (try simp only [List.getElem_toArray]); (try simp only [List.getElem_cons_succ]); (try simp only [List.getElem_cons_zero]); (try simp only [Act.put]); (try simp only [List.setIfInBounds_toArray]); (try simp only [List.set_cons_succ]); (try simp only [List.set_cons_zero])
        refine wpAnyH_ready (rs := [4, 5]) (by kernel_rfl) (by simp) ?_
        refine AllReadyH.cons (o := _) rfl (fun K hK => ?_) (AllReadyH.cons (o := _) rfl (fun K hK => ?_) AllReadyH.nil)
        · rw [if_pos (by rfl)]
          go_simp
          go_at_call 7
          refine (HS.out _ _ _ (by exact w0a0.rd) (by exact w0a1.rd)).mono ?_
          rintro e w8 ⟨u, bw0_0, bw0_1, bw0_2, bw0_3, rfl, w0, fw0_0, fw0_1, fw0_2, fw0_3, hb8⟩
          obtain ⟨cs_w0, e_w0, R_w0⟩ := w0.row
          subst e_w0
          have F_w0 : ∀ y ∈ (bw0_0 ++ (bw0_1 ++ (bw0_2 ++ bw0_3))), w7.heap.size ≤ y := all_app fw0_0 (all_app fw0_1 (all_app fw0_2 fw0_3))
          (try have nbk_w0 : _ ∉ (bw0_0 ++ (bw0_1 ++ (bw0_2 ++ bw0_3))) := fun hm => Nat.not_lt.2 (F_w0 _ hm) NB.lt)
          have dj_w0a0_w0 : Dj (bw0a0_0 ++ (bw0a0_1 ++ bw0a0_2)) (bw0_0 ++ (bw0_1 ++ (bw0_2 ++ bw0_3))) := fun y hy hm => Nat.not_lt.2 (F_w0 y hm) (w0a0.lt y hy)
          have dj_w0a1_w0 : Dj bw0a1_0 (bw0_0 ++ (bw0_1 ++ (bw0_2 ++ bw0_3))) := fun y hy hm => Nat.not_lt.2 (F_w0 y hm) (w0a1.lt y hy)
          have nb_X0_w0 : w.heap.size ∉ (bw0_0 ++ (bw0_1 ++ (bw0_2 ++ bw0_3))) := fun hm => Nat.not_lt.2 (F_w0 _ hm) X0.lt
          have nb_X1_w0 : (w.heap.size + 1) ∉ (bw0_0 ++ (bw0_1 ++ (bw0_2 ++ bw0_3))) := fun hm => Nat.not_lt.2 (F_w0 _ hm) X1.lt
          have G_w0 : ∀ y ∈ (bw0_0 ++ (bw0_1 ++ (bw0_2 ++ bw0_3))), w.heap.size ≤ y := fun y hy => Nat.le_trans B.size (F_w0 y hy)
          clear F_w0
          (try replace NB := NB.keep hb8)
          replace X0 := X0.keep hb8
          replace X1 := X1.keep hb8
          replace w0a0 := w0a0.keep hb8
          replace w0a1 := w0a1.keep hb8
          replace B := B.trans (hb8.mono B.size)
          clear hb8 fw0_0 fw0_1 fw0_2 fw0_3
          (try dsimp only)
          refine hK.out _ _ ⟨X0, X1⟩ (fun hS => ?_)
          clear hK K
          (try simp only [List.getElem_toArray]); (try simp only [List.getElem_cons_succ]); (try simp only [List.getElem_cons_zero]); (try simp only [Act.put]); (try simp only [List.setIfInBounds_toArray]); (try simp only [List.set_cons_succ]); (try simp only [List.set_cons_zero])
          refine wpAnyH_ready (rs := [5]) (by kernel_rfl) (by simp) ?_
          refine AllReadyH.cons (o := _) rfl (fun K hK => ?_) AllReadyH.nil
          rw [if_pos (by rfl)]
          go_simp
          have nbx_X0 : w.heap.size ≠ w8.heap.size := Nat.ne_of_lt X0.lt
          have nbx_X1 : (w.heap.size + 1) ≠ w8.heap.size := Nat.ne_of_lt X1.lt
          have nbk_w0a0 : w8.heap.size ∉ (bw0a0_0 ++ (bw0a0_1 ++ bw0a0_2)) := fun hm => Nat.lt_irrefl _ (w0a0.lt _ hm)
          have nbk_w0a1 : w8.heap.size ∉ bw0a1_0 := fun hm => Nat.lt_irrefl _ (w0a1.lt _ hm)
          have nbk_w0 : w8.heap.size ∉ (bw0_0 ++ (bw0_1 ++ (bw0_2 ++ bw0_3))) := fun hm => Nat.lt_irrefl _ (w0.lt _ hm)
          replace X0 := X0.alloc (.cells #[.int .i64 0, .int .i64 0, .slice none 0 0, .slice none 0 0, .slice none 0 0, .int .i64 0, .slice none 0 0, .int .i64 0, .int .i64 0, .int .i64 0, .bool false, .bool false, .int .i64 0, .int .i64 0, .int .i64 0, .int .i64 0, .int .i64 0, .int .i64 0, .int .i64 0] 43)
          replace X1 := X1.alloc (.cells #[.int .i64 0, .int .i64 0, .slice none 0 0, .slice none 0 0, .slice none 0 0, .int .i64 0, .slice none 0 0, .int .i64 0, .int .i64 0, .int .i64 0, .bool false, .bool false, .int .i64 0, .int .i64 0, .int .i64 0, .int .i64 0, .int .i64 0, .int .i64 0, .int .i64 0] 43)
          replace w0a0 := w0a0.alloc (.cells #[.int .i64 0, .int .i64 0, .slice none 0 0, .slice none 0 0, .slice none 0 0, .int .i64 0, .slice none 0 0, .int .i64 0, .int .i64 0, .int .i64 0, .bool false, .bool false, .int .i64 0, .int .i64 0, .int .i64 0, .int .i64 0, .int .i64 0, .int .i64 0, .int .i64 0] 43)
          replace w0a1 := w0a1.alloc (.cells #[.int .i64 0, .int .i64 0, .slice none 0 0, .slice none 0 0, .slice none 0 0, .int .i64 0, .slice none 0 0, .int .i64 0, .int .i64 0, .int .i64 0, .bool false, .bool false, .int .i64 0, .int .i64 0, .int .i64 0, .int .i64 0, .int .i64 0, .int .i64 0, .int .i64 0] 43)
          replace w0 := w0.alloc (.cells #[.int .i64 0, .int .i64 0, .slice none 0 0, .slice none 0 0, .slice none 0 0, .int .i64 0, .slice none 0 0, .int .i64 0, .int .i64 0, .int .i64 0, .bool false, .bool false, .int .i64 0, .int .i64 0, .int .i64 0, .int .i64 0, .int .i64 0, .int .i64 0, .int .i64 0] 43)
          have NB := Blk.new w8 43 #[.int .i64 0, .int .i64 0, .slice none 0 0, .slice none 0 0, .slice none 0 0, .int .i64 0, .slice none 0 0, .int .i64 0, .int .i64 0, .int .i64 0, .bool false, .bool false, .int .i64 0, .int .i64 0, .int .i64 0, .int .i64 0, .int .i64 0, .int .i64 0, .int .i64 0]
          have gNB : w.heap.size ≤ w8.heap.size := B.size
          replace B := B.alloc B.size (.cells #[.int .i64 0, .int .i64 0, .slice none 0 0, .slice none 0 0, .slice none 0 0, .int .i64 0, .slice none 0 0, .int .i64 0, .int .i64 0, .int .i64 0, .bool false, .bool false, .int .i64 0, .int .i64 0, .int .i64 0, .int .i64 0, .int .i64 0, .int .i64 0, .int .i64 0] 43)
          refine hK.out _ _ ⟨X0, X1⟩ (fun hS => ?_)
          clear hK K
          (try simp only [List.getElem_toArray]); (try simp only [List.getElem_cons_succ]); (try simp only [List.getElem_cons_zero]); (try simp only [Act.put]); (try simp only [List.setIfInBounds_toArray]); (try simp only [List.set_cons_succ]); (try simp only [List.set_cons_zero])
          refine wpAnyH_ready (rs := [6]) (by kernel_rfl) (by simp) ?_
          refine AllReadyH.cons (o := _) rfl (fun K hK => ?_) AllReadyH.nil
          refine step_store_blk rfl 43 _ _ rfl w8.heap.size cs_w0 rfl rfl NB (by rw [R_w0.1]; rfl) (R_w0.hi (by kernel_rfl)) R_w0.2 ?_
          intro wE YE OE
          refine hK.out _ _ ⟨(X0.off OE (fun hm => nbx_X0 (List.mem_singleton.1 hm))), (X1.off OE (fun hm => nbx_X1 (List.mem_singleton.1 hm)))⟩ (fun hS => ?_)
          clear hK K
          (try simp only [List.getElem_toArray]); (try simp only [List.getElem_cons_succ]); (try simp only [List.getElem_cons_zero]); (try simp only [Act.put]); (try simp only [List.setIfInBounds_toArray]); (try simp only [List.set_cons_succ]); (try simp only [List.set_cons_zero])
          refine wpAnyH_done (by kernel_rfl) ?_ _
          have FIN : ∃ nz cs_w0 bw0_0 bw0_1 bw0_2 bw0_3, (Value.pointer (some ⟨w8.heap.size, 0, none⟩)) = .pointer (some ⟨nz, 0, none⟩) ∧ Blk wE w.heap.size 31 cs0 ∧ Blk wE (w.heap.size + 1) 33 cs1 ∧ Below w.heap.size w wE ∧ OwMixResult wE (.agg cs_w0) r bw0_0 bw0_1 bw0_2 bw0_3 ∧ Rw 19 cs_w0 ∧ Blk wE nz 43 cs_w0 ∧ w.heap.size ∉ (bw0_0 ++ (bw0_1 ++ (bw0_2 ++ bw0_3))) ∧ (w.heap.size + 1) ∉ (bw0_0 ++ (bw0_1 ++ (bw0_2 ++ bw0_3))) ∧ (∀ y ∈ (bw0_0 ++ (bw0_1 ++ (bw0_2 ++ bw0_3))), w.heap.size ≤ y) ∧ nz ∉ (bw0_0 ++ (bw0_1 ++ (bw0_2 ++ bw0_3))) := ⟨w8.heap.size, cs_w0, bw0_0, bw0_1, bw0_2, bw0_3, rfl, X0.off OE (fun hm => nbx_X0 (List.mem_singleton.1 hm)), X1.off OE (fun hm => nbx_X1 (List.mem_singleton.1 hm)), B.trans (OE.toBelow B.size (fun y hy => by rw [List.mem_singleton.1 hy]; exact gNB)), w0.off OE (fun y hy hm => nbk_w0 (by have e := List.mem_singleton.1 hm; subst e; exact hy)), R_w0, YE, nb_X0_w0, nb_X1_w0, G_w0, nbk_w0⟩
          go_wp2
          go_meet
          case rel => exact FIN
        · rw [if_pos (by rfl)]
          go_simp
          have nbx_X0 : w.heap.size ≠ w7.heap.size := Nat.ne_of_lt X0.lt
          have nbx_X1 : (w.heap.size + 1) ≠ w7.heap.size := Nat.ne_of_lt X1.lt
          have nbk_w0a0 : w7.heap.size ∉ (bw0a0_0 ++ (bw0a0_1 ++ bw0a0_2)) := fun hm => Nat.lt_irrefl _ (w0a0.lt _ hm)
          have nbk_w0a1 : w7.heap.size ∉ bw0a1_0 := fun hm => Nat.lt_irrefl _ (w0a1.lt _ hm)
          replace X0 := X0.alloc (.cells #[.int .i64 0, .int .i64 0, .slice none 0 0, .slice none 0 0, .slice none 0 0, .int .i64 0, .slice none 0 0, .int .i64 0, .int .i64 0, .int .i64 0, .bool false, .bool false, .int .i64 0, .int .i64 0, .int .i64 0, .int .i64 0, .int .i64 0, .int .i64 0, .int .i64 0] 43)
          replace X1 := X1.alloc (.cells #[.int .i64 0, .int .i64 0, .slice none 0 0, .slice none 0 0, .slice none 0 0, .int .i64 0, .slice none 0 0, .int .i64 0, .int .i64 0, .int .i64 0, .bool false, .bool false, .int .i64 0, .int .i64 0, .int .i64 0, .int .i64 0, .int .i64 0, .int .i64 0, .int .i64 0] 43)
          replace w0a0 := w0a0.alloc (.cells #[.int .i64 0, .int .i64 0, .slice none 0 0, .slice none 0 0, .slice none 0 0, .int .i64 0, .slice none 0 0, .int .i64 0, .int .i64 0, .int .i64 0, .bool false, .bool false, .int .i64 0, .int .i64 0, .int .i64 0, .int .i64 0, .int .i64 0, .int .i64 0, .int .i64 0] 43)
          replace w0a1 := w0a1.alloc (.cells #[.int .i64 0, .int .i64 0, .slice none 0 0, .slice none 0 0, .slice none 0 0, .int .i64 0, .slice none 0 0, .int .i64 0, .int .i64 0, .int .i64 0, .bool false, .bool false, .int .i64 0, .int .i64 0, .int .i64 0, .int .i64 0, .int .i64 0, .int .i64 0, .int .i64 0] 43)
          have NB := Blk.new w7 43 #[.int .i64 0, .int .i64 0, .slice none 0 0, .slice none 0 0, .slice none 0 0, .int .i64 0, .slice none 0 0, .int .i64 0, .int .i64 0, .int .i64 0, .bool false, .bool false, .int .i64 0, .int .i64 0, .int .i64 0, .int .i64 0, .int .i64 0, .int .i64 0, .int .i64 0]
          have gNB : w.heap.size ≤ w7.heap.size := B.size
          replace B := B.alloc B.size (.cells #[.int .i64 0, .int .i64 0, .slice none 0 0, .slice none 0 0, .slice none 0 0, .int .i64 0, .slice none 0 0, .int .i64 0, .int .i64 0, .int .i64 0, .bool false, .bool false, .int .i64 0, .int .i64 0, .int .i64 0, .int .i64 0, .int .i64 0, .int .i64 0, .int .i64 0] 43)
          refine hK.out _ _ ⟨X0, X1⟩ (fun hS => ?_)
          clear hK K
          (try simp only [List.getElem_toArray]); (try simp only [List.getElem_cons_succ]); (try simp only [List.getElem_cons_zero]); (try simp only [Act.put]); (try simp only [List.setIfInBounds_toArray]); (try simp only [List.set_cons_succ]); (try simp only [List.set_cons_zero])
          refine wpAnyH_ready (rs := [4]) (by kernel_rfl) (by simp) ?_
          refine AllReadyH.cons (o := _) rfl (fun K hK => ?_) AllReadyH.nil
          rw [if_pos (by rfl)]
          go_simp
          go_at_call 7
          refine (HS.out _ _ _ (by exact w0a0.rd) (by exact w0a1.rd)).mono ?_
          rintro e w9 ⟨u, bw0_0, bw0_1, bw0_2, bw0_3, rfl, w0, fw0_0, fw0_1, fw0_2, fw0_3, hb9⟩
          obtain ⟨cs_w0, e_w0, R_w0⟩ := w0.row
          subst e_w0
          have F_w0 : ∀ y ∈ (bw0_0 ++ (bw0_1 ++ (bw0_2 ++ bw0_3))), (w7.alloc (.cells #[.int .i64 0, .int .i64 0, .slice none 0 0, .slice none 0 0, .slice none 0 0, .int .i64 0, .slice none 0 0, .int .i64 0, .int .i64 0, .int .i64 0, .bool false, .bool false, .int .i64 0, .int .i64 0, .int .i64 0, .int .i64 0, .int .i64 0, .int .i64 0, .int .i64 0] 43)).heap.size ≤ y := all_app fw0_0 (all_app fw0_1 (all_app fw0_2 fw0_3))
          (try have nbk_w0 : _ ∉ (bw0_0 ++ (bw0_1 ++ (bw0_2 ++ bw0_3))) := fun hm => Nat.not_lt.2 (F_w0 _ hm) NB.lt)
          have dj_w0a0_w0 : Dj (bw0a0_0 ++ (bw0a0_1 ++ bw0a0_2)) (bw0_0 ++ (bw0_1 ++ (bw0_2 ++ bw0_3))) := fun y hy hm => Nat.not_lt.2 (F_w0 y hm) (w0a0.lt y hy)
          have dj_w0a1_w0 : Dj bw0a1_0 (bw0_0 ++ (bw0_1 ++ (bw0_2 ++ bw0_3))) := fun y hy hm => Nat.not_lt.2 (F_w0 y hm) (w0a1.lt y hy)
          have nb_X0_w0 : w.heap.size ∉ (bw0_0 ++ (bw0_1 ++ (bw0_2 ++ bw0_3))) := fun hm => Nat.not_lt.2 (F_w0 _ hm) X0.lt
          have nb_X1_w0 : (w.heap.size + 1) ∉ (bw0_0 ++ (bw0_1 ++ (bw0_2 ++ bw0_3))) := fun hm => Nat.not_lt.2 (F_w0 _ hm) X1.lt
          have G_w0 : ∀ y ∈ (bw0_0 ++ (bw0_1 ++ (bw0_2 ++ bw0_3))), w.heap.size ≤ y := fun y hy => Nat.le_trans B.size (F_w0 y hy)
          clear F_w0
          (try replace NB := NB.keep hb9)
          replace X0 := X0.keep hb9
          replace X1 := X1.keep hb9
          replace w0a0 := w0a0.keep hb9
          replace w0a1 := w0a1.keep hb9
          replace B := B.trans (hb9.mono B.size)
          clear hb9 fw0_0 fw0_1 fw0_2 fw0_3
          (try dsimp only)
          refine hK.out _ _ ⟨X0, X1⟩ (fun hS => ?_)
          clear hK K
          (try simp only [List.getElem_toArray]); (try simp only [List.getElem_cons_succ]); (try simp only [List.getElem_cons_zero]); (try simp only [Act.put]); (try simp only [List.setIfInBounds_toArray]); (try simp only [List.set_cons_succ]); (try simp only [List.set_cons_zero])
          refine wpAnyH_ready (rs := [6]) (by kernel_rfl) (by simp) ?_
          refine AllReadyH.cons (o := _) rfl (fun K hK => ?_) AllReadyH.nil
          refine step_store_blk rfl 43 _ _ rfl w7.heap.size cs_w0 rfl rfl NB (by rw [R_w0.1]; rfl) (R_w0.hi (by kernel_rfl)) R_w0.2 ?_
          intro wE YE OE
          refine hK.out _ _ ⟨(X0.off OE (fun hm => nbx_X0 (List.mem_singleton.1 hm))), (X1.off OE (fun hm => nbx_X1 (List.mem_singleton.1 hm)))⟩ (fun hS => ?_)
          clear hK K
          (try simp only [List.getElem_toArray]); (try simp only [List.getElem_cons_succ]); (try simp only [List.getElem_cons_zero]); (try simp only [Act.put]); (try simp only [List.setIfInBounds_toArray]); (try simp only [List.set_cons_succ]); (try simp only [List.set_cons_zero])
          refine wpAnyH_done (by kernel_rfl) ?_ _
          have FIN : ∃ nz cs_w0 bw0_0 bw0_1 bw0_2 bw0_3, (Value.pointer (some ⟨w7.heap.size, 0, none⟩)) = .pointer (some ⟨nz, 0, none⟩) ∧ Blk wE w.heap.size 31 cs0 ∧ Blk wE (w.heap.size + 1) 33 cs1 ∧ Below w.heap.size w wE ∧ OwMixResult wE (.agg cs_w0) r bw0_0 bw0_1 bw0_2 bw0_3 ∧ Rw 19 cs_w0 ∧ Blk wE nz 43 cs_w0 ∧ w.heap.size ∉ (bw0_0 ++ (bw0_1 ++ (bw0_2 ++ bw0_3))) ∧ (w.heap.size + 1) ∉ (bw0_0 ++ (bw0_1 ++ (bw0_2 ++ bw0_3))) ∧ (∀ y ∈ (bw0_0 ++ (bw0_1 ++ (bw0_2 ++ bw0_3))), w.heap.size ≤ y) ∧ nz ∉ (bw0_0 ++ (bw0_1 ++ (bw0_2 ++ bw0_3))) := ⟨w7.heap.size, cs_w0, bw0_0, bw0_1, bw0_2, bw0_3, rfl, X0.off OE (fun hm => nbx_X0 (List.mem_singleton.1 hm)), X1.off OE (fun hm => nbx_X1 (List.mem_singleton.1 hm)), B.trans (OE.toBelow B.size (fun y hy => by rw [List.mem_singleton.1 hy]; exact gNB)), w0.off OE (fun y hy hm => nbk_w0 (by have e := List.mem_singleton.1 hm; subst e; exact hy)), R_w0, YE, nb_X0_w0, nb_X1_w0, G_w0, nbk_w0⟩
          go_wp2
          go_meet
          case rel => exact FIN
      · rw [if_pos (by rfl)]
        go_simp
        have nbx_X0 : w.heap.size ≠ w6.heap.size := Nat.ne_of_lt X0.lt
        have nbx_X1 : (w.heap.size + 1) ≠ w6.heap.size := Nat.ne_of_lt X1.lt
        have nbk_w0a0 : w6.heap.size ∉ (bw0a0_0 ++ (bw0a0_1 ++ bw0a0_2)) := fun hm => Nat.lt_irrefl _ (w0a0.lt _ hm)
        replace X0 := X0.alloc (.cells #[.int .i64 0, .int .i64 0, .slice none 0 0, .slice none 0 0, .slice none 0 0, .int .i64 0, .slice none 0 0, .int .i64 0, .int .i64 0, .int .i64 0, .bool false, .bool false, .int .i64 0, .int .i64 0, .int .i64 0, .int .i64 0, .int .i64 0, .int .i64 0, .int .i64 0] 43)
        replace X1 := X1.alloc (.cells #[.int .i64 0, .int .i64 0, .slice none 0 0, .slice none 0 0, .slice none 0 0, .int .i64 0, .slice none 0 0, .int .i64 0, .int .i64 0, .int .i64 0, .bool false, .bool false, .int .i64 0, .int .i64 0, .int .i64 0, .int .i64 0, .int .i64 0, .int .i64 0, .int .i64 0] 43)
        replace w0a0 := w0a0.alloc (.cells #[.int .i64 0, .int .i64 0, .slice none 0 0, .slice none 0 0, .slice none 0 0, .int .i64 0, .slice none 0 0, .int .i64 0, .int .i64 0, .int .i64 0, .bool false, .bool false, .int .i64 0, .int .i64 0, .int .i64 0, .int .i64 0, .int .i64 0, .int .i64 0, .int .i64 0] 43)
        have NB := Blk.new w6 43 #[.int .i64 0, .int .i64 0, .slice none 0 0, .slice none 0 0, .slice none 0 0, .int .i64 0, .slice none 0 0, .int .i64 0, .int .i64 0, .int .i64 0, .bool false, .bool false, .int .i64 0, .int .i64 0, .int .i64 0, .int .i64 0, .int .i64 0, .int .i64 0, .int .i64 0]
        have gNB : w.heap.size ≤ w6.heap.size := B.size
        replace B := B.alloc B.size (.cells #[.int .i64 0, .int .i64 0, .slice none 0 0, .slice none 0 0, .slice none 0 0, .int .i64 0, .slice none 0 0, .int .i64 0, .int .i64 0, .int .i64 0, .bool false, .bool false, .int .i64 0, .int .i64 0, .int .i64 0, .int .i64 0, .int .i64 0, .int .i64 0, .int .i64 0] 43)
        refine hK.out _ _ ⟨X0, X1⟩ (fun hS => ?_)
        clear hK K
        (try simp only [List.getElem_toArray]); (try simp only [List.getElem_cons_succ]); (try simp only [List.getElem_cons_zero]); (try simp only [Act.put]); (try simp only [List.setIfInBounds_toArray]); (try simp only [List.set_cons_succ]); (try simp only [List.set_cons_zero])
        refine wpAnyH_ready (rs := [3]) (by kernel_rfl) (by simp) ?_
        refine AllReadyH.cons (o := _) rfl (fun K hK => ?_) AllReadyH.nil
        rw [if_pos (by rfl)]
        go_simp
        go_at_call 9
        refine (toMirror_ow _ x1 _ (by exact r1.below B) (by omega)).mono ?_
        rintro e w10 ⟨u, bw0a1_0, rfl, w0a1, fw0a1_0, hb10⟩
        obtain ⟨cs_w0a1, e_w0a1, R_w0a1⟩ := w0a1.row
        subst e_w0a1
        have F_w0a1 : ∀ y ∈ bw0a1_0, (w6.alloc (.cells #[.int .i64 0, .int .i64 0, .slice none 0 0, .slice none 0 0, .slice none 0 0, .int .i64 0, .slice none 0 0, .int .i64 0, .int .i64 0, .int .i64 0, .bool false, .bool false, .int .i64 0, .int .i64 0, .int .i64 0, .int .i64 0, .int .i64 0, .int .i64 0, .int .i64 0] 43)).heap.size ≤ y := fw0a1_0
        (try have nbk_w0a1 : _ ∉ bw0a1_0 := fun hm => Nat.not_lt.2 (F_w0a1 _ hm) NB.lt)
        have dj_w0a0_w0a1 : Dj (bw0a0_0 ++ (bw0a0_1 ++ bw0a0_2)) bw0a1_0 := fun y hy hm => Nat.not_lt.2 (F_w0a1 y hm) (w0a0.lt y hy)
        have nb_X0_w0a1 : w.heap.size ∉ bw0a1_0 := fun hm => Nat.not_lt.2 (F_w0a1 _ hm) X0.lt
        have nb_X1_w0a1 : (w.heap.size + 1) ∉ bw0a1_0 := fun hm => Nat.not_lt.2 (F_w0a1 _ hm) X1.lt
        have G_w0a1 : ∀ y ∈ bw0a1_0, w.heap.size ≤ y := fun y hy => Nat.le_trans B.size (F_w0a1 y hy)
        clear F_w0a1
        (try replace NB := NB.keep hb10)
        replace X0 := X0.keep hb10
        replace X1 := X1.keep hb10
        replace w0a0 := w0a0.keep hb10
        replace B := B.trans (hb10.mono B.size)
        clear hb10 fw0a1_0
        (try dsimp only)
        refine hK.out _ _ ⟨X0, X1⟩ (fun hS => ?_)
        clear hK K
        (try simp only [List.getElem_toArray]); (try simp only [List.getElem_cons_succ]); (try simp only [List.getElem_cons_zero]); (try simp only [Act.put]); (try simp only [List.setIfInBounds_toArray]); (try simp only [List.set_cons_succ]); (try simp only [List.set_cons_zero])
        refine wpAnyH_ready (rs := [4]) (by kernel_rfl) (by simp) ?_
        refine AllReadyH.cons (o := _) rfl (fun K hK => ?_) AllReadyH.nil
        rw [if_pos (by rfl)]
        go_simp
        go_at_call 7
        refine (HS.out _ _ _ (by exact w0a0.rd) (by exact w0a1.rd)).mono ?_
        rintro e w11 ⟨u, bw0_0, bw0_1, bw0_2, bw0_3, rfl, w0, fw0_0, fw0_1, fw0_2, fw0_3, hb11⟩
        obtain ⟨cs_w0, e_w0, R_w0⟩ := w0.row
        subst e_w0
        have F_w0 : ∀ y ∈ (bw0_0 ++ (bw0_1 ++ (bw0_2 ++ bw0_3))), w10.heap.size ≤ y := all_app fw0_0 (all_app fw0_1 (all_app fw0_2 fw0_3))
        (try have nbk_w0 : _ ∉ (bw0_0 ++ (bw0_1 ++ (bw0_2 ++ bw0_3))) := fun hm => Nat.not_lt.2 (F_w0 _ hm) NB.lt)
        have dj_w0a0_w0 : Dj (bw0a0_0 ++ (bw0a0_1 ++ bw0a0_2)) (bw0_0 ++ (bw0_1 ++ (bw0_2 ++ bw0_3))) := fun y hy hm => Nat.not_lt.2 (F_w0 y hm) (w0a0.lt y hy)
        have dj_w0a1_w0 : Dj bw0a1_0 (bw0_0 ++ (bw0_1 ++ (bw0_2 ++ bw0_3))) := fun y hy hm => Nat.not_lt.2 (F_w0 y hm) (w0a1.lt y hy)
        have nb_X0_w0 : w.heap.size ∉ (bw0_0 ++ (bw0_1 ++ (bw0_2 ++ bw0_3))) := fun hm => Nat.not_lt.2 (F_w0 _ hm) X0.lt
        have nb_X1_w0 : (w.heap.size + 1) ∉ (bw0_0 ++ (bw0_1 ++ (bw0_2 ++ bw0_3))) := fun hm => Nat.not_lt.2 (F_w0 _ hm) X1.lt
        have G_w0 : ∀ y ∈ (bw0_0 ++ (bw0_1 ++ (bw0_2 ++ bw0_3))), w.heap.size ≤ y := fun y hy => Nat.le_trans B.size (F_w0 y hy)
        clear F_w0
        (try replace NB := NB.keep hb11)
        replace X0 := X0.keep hb11
        replace X1 := X1.keep hb11
        replace w0a0 := w0a0.keep hb11
        replace w0a1 := w0a1.keep hb11
        replace B := B.trans (hb11.mono B.size)
        clear hb11 fw0_0 fw0_1 fw0_2 fw0_3
        (try dsimp only)
        refine hK.out _ _ ⟨X0, X1⟩ (fun hS => ?_)
        clear hK K
        (try simp only [List.getElem_toArray]); (try simp only [List.getElem_cons_succ]); (try simp only [List.getElem_cons_zero]); (try simp only [Act.put]); (try simp only [List.setIfInBounds_toArray]); (try simp only [List.set_cons_succ]); (try simp only [List.set_cons_zero])
        refine wpAnyH_ready (rs := [6]) (by kernel_rfl) (by simp) ?_
        refine AllReadyH.cons (o := _) rfl (fun K hK => ?_) AllReadyH.nil
        refine step_store_blk rfl 43 _ _ rfl w6.heap.size cs_w0 rfl rfl NB (by rw [R_w0.1]; rfl) (R_w0.hi (by kernel_rfl)) R_w0.2 ?_
        intro wE YE OE
        refine hK.out _ _ ⟨(X0.off OE (fun hm => nbx_X0 (List.mem_singleton.1 hm))), (X1.off OE (fun hm => nbx_X1 (List.mem_singleton.1 hm)))⟩ (fun hS => ?_)
        clear hK K
        (try simp only [List.getElem_toArray]); (try simp only [List.getElem_cons_succ]); (try simp only [List.getElem_cons_zero]); (try simp only [Act.put]); (try simp only [List.setIfInBounds_toArray]); (try simp only [List.set_cons_succ]); (try simp only [List.set_cons_zero])
        refine wpAnyH_done (by kernel_rfl) ?_ _
        have FIN : ∃ nz cs_w0 bw0_0 bw0_1 bw0_2 bw0_3, (Value.pointer (some ⟨w6.heap.size, 0, none⟩)) = .pointer (some ⟨nz, 0, none⟩) ∧ Blk wE w.heap.size 31 cs0 ∧ Blk wE (w.heap.size + 1) 33 cs1 ∧ Below w.heap.size w wE ∧ OwMixResult wE (.agg cs_w0) r bw0_0 bw0_1 bw0_2 bw0_3 ∧ Rw 19 cs_w0 ∧ Blk wE nz 43 cs_w0 ∧ w.heap.size ∉ (bw0_0 ++ (bw0_1 ++ (bw0_2 ++ bw0_3))) ∧ (w.heap.size + 1) ∉ (bw0_0 ++ (bw0_1 ++ (bw0_2 ++ bw0_3))) ∧ (∀ y ∈ (bw0_0 ++ (bw0_1 ++ (bw0_2 ++ bw0_3))), w.heap.size ≤ y) ∧ nz ∉ (bw0_0 ++ (bw0_1 ++ (bw0_2 ++ bw0_3))) := ⟨w6.heap.size, cs_w0, bw0_0, bw0_1, bw0_2, bw0_3, rfl, X0.off OE (fun hm => nbx_X0 (List.mem_singleton.1 hm)), X1.off OE (fun hm => nbx_X1 (List.mem_singleton.1 hm)), B.trans (OE.toBelow B.size (fun y hy => by rw [List.mem_singleton.1 hy]; exact gNB)), w0.off OE (fun y hy hm => nbk_w0 (by have e := List.mem_singleton.1 hm; subst e; exact hy)), R_w0, YE, nb_X0_w0, nb_X1_w0, G_w0, nbk_w0⟩
        go_wp2
        go_meet
        case rel => exact FIN
    · rw [if_pos (by rfl)]
      go_simp
      have nbx_X0 : w.heap.size ≠ w5.heap.size := Nat.ne_of_lt X0.lt
      have nbx_X1 : (w.heap.size + 1) ≠ w5.heap.size := Nat.ne_of_lt X1.lt
      replace X0 := X0.alloc (.cells #[.int .i64 0, .int .i64 0, .slice none 0 0, .slice none 0 0, .slice none 0 0, .int .i64 0, .slice none 0 0, .int .i64 0, .int .i64 0, .int .i64 0, .bool false, .bool false, .int .i64 0, .int .i64 0, .int .i64 0, .int .i64 0, .int .i64 0, .int .i64 0, .int .i64 0] 43)
      replace X1 := X1.alloc (.cells #[.int .i64 0, .int .i64 0, .slice none 0 0, .slice none 0 0, .slice none 0 0, .int .i64 0, .slice none 0 0, .int .i64 0, .int .i64 0, .int .i64 0, .bool false, .bool false, .int .i64 0, .int .i64 0, .int .i64 0, .int .i64 0, .int .i64 0, .int .i64 0, .int .i64 0] 43)
      have NB := Blk.new w5.drew 43 #[.int .i64 0, .int .i64 0, .slice none 0 0, .slice none 0 0, .slice none 0 0, .int .i64 0, .slice none 0 0, .int .i64 0, .int .i64 0, .int .i64 0, .bool false, .bool false, .int .i64 0, .int .i64 0, .int .i64 0, .int .i64 0, .int .i64 0, .int .i64 0, .int .i64 0]
      have gNB : w.heap.size ≤ w5.heap.size := B.size
      replace B := B.alloc B.size (.cells #[.int .i64 0, .int .i64 0, .slice none 0 0, .slice none 0 0, .slice none 0 0, .int .i64 0, .slice none 0 0, .int .i64 0, .int .i64 0, .int .i64 0, .bool false, .bool false, .int .i64 0, .int .i64 0, .int .i64 0, .int .i64 0, .int .i64 0, .int .i64 0, .int .i64 0] 43)
      refine hK.out _ _ ⟨X0, X1⟩ (fun hS => ?_)
      clear hK K
      (try simp only [List.getElem_toArray]); (try simp only [List.getElem_cons_succ]); (try simp only [List.getElem_cons_zero]); (try simp only [Act.put]); (try simp only [List.setIfInBounds_toArray]); (try simp only [List.set_cons_succ]); (try simp only [List.set_cons_zero])
      refine wpAnyH_ready (rs := [1]) (by kernel_rfl) (by simp) ?_
      refine AllReadyH.cons (o := _) rfl (fun K hK => ?_) AllReadyH.nil
      rw [if_pos (by rfl)]
      go_simp
      go_at_call 8
      refine (toNet_ow _ x0 _ (by exact r0.below B) (by omega)).mono ?_
      rintro e w12 ⟨u, bw0a0_0, bw0a0_1, bw0a0_2, rfl, w0a0, fw0a0_0, fw0a0_1, fw0a0_2, hb12⟩
      obtain ⟨cs_w0a0, e_w0a0, R_w0a0⟩ := w0a0.row
      subst e_w0a0
      have F_w0a0 : ∀ y ∈ (bw0a0_0 ++ (bw0a0_1 ++ bw0a0_2)), (w5.drew.alloc (.cells #[.int .i64 0, .int .i64 0, .slice none 0 0, .slice none 0 0, .slice none 0 0, .int .i64 0, .slice none 0 0, .int .i64 0, .int .i64 0, .int .i64 0, .bool false, .bool false, .int .i64 0, .int .i64 0, .int .i64 0, .int .i64 0, .int .i64 0, .int .i64 0, .int .i64 0] 43)).heap.size ≤ y := all_app fw0a0_0 (all_app fw0a0_1 fw0a0_2)
      (try have nbk_w0a0 : _ ∉ (bw0a0_0 ++ (bw0a0_1 ++ bw0a0_2)) := fun hm => Nat.not_lt.2 (F_w0a0 _ hm) NB.lt)
      have nb_X0_w0a0 : w.heap.size ∉ (bw0a0_0 ++ (bw0a0_1 ++ bw0a0_2)) := fun hm => Nat.not_lt.2 (F_w0a0 _ hm) X0.lt
      have nb_X1_w0a0 : (w.heap.size + 1) ∉ (bw0a0_0 ++ (bw0a0_1 ++ bw0a0_2)) := fun hm => Nat.not_lt.2 (F_w0a0 _ hm) X1.lt
      have G_w0a0 : ∀ y ∈ (bw0a0_0 ++ (bw0a0_1 ++ bw0a0_2)), w.heap.size ≤ y := fun y hy => Nat.le_trans B.size (F_w0a0 y hy)
      clear F_w0a0
      (try replace NB := NB.keep hb12)
      replace X0 := X0.keep hb12
      replace X1 := X1.keep hb12
      replace B := B.trans (hb12.mono B.size)
      clear hb12 fw0a0_0 fw0a0_1 fw0a0_2
      (try dsimp only)
      refine hK.out _ _ ⟨X0, X1⟩ (fun hS => ?_)
      clear hK K
      (try simp only [List.getElem_toArray]); (try simp only [List.getElem_cons_succ]); (try simp only [List.getElem_cons_zero]); (try simp only [Act.put]); (try simp only [List.setIfInBounds_toArray]); (try simp only [List.set_cons_succ]); (try simp only [List.set_cons_zero])
      refine wpAnyH_ready (rs := [3]) (by kernel_rfl) (by simp) ?_
      refine AllReadyH.cons (o := _) rfl (fun K hK => ?_) AllReadyH.nil
      rw [if_pos (by rfl)]
      go_simp
      go_at_call 9
      refine (toMirror_ow _ x1 _ (by exact r1.below B) (by omega)).mono ?_
      rintro e w13 ⟨u, bw0a1_0, rfl, w0a1, fw0a1_0, hb13⟩
      obtain ⟨cs_w0a1, e_w0a1, R_w0a1⟩ := w0a1.row
      subst e_w0a1
      have F_w0a1 : ∀ y ∈ bw0a1_0, w12.heap.size ≤ y := fw0a1_0
      (try have nbk_w0a1 : _ ∉ bw0a1_0 := fun hm => Nat.not_lt.2 (F_w0a1 _ hm) NB.lt)
      have dj_w0a0_w0a1 : Dj (bw0a0_0 ++ (bw0a0_1 ++ bw0a0_2)) bw0a1_0 := fun y hy hm => Nat.not_lt.2 (F_w0a1 y hm) (w0a0.lt y hy)
      have nb_X0_w0a1 : w.heap.size ∉ bw0a1_0 := fun hm => Nat.not_lt.2 (F_w0a1 _ hm) X0.lt
      have nb_X1_w0a1 : (w.heap.size + 1) ∉ bw0a1_0 := fun hm => Nat.not_lt.2 (F_w0a1 _ hm) X1.lt
      have G_w0a1 : ∀ y ∈ bw0a1_0, w.heap.size ≤ y := fun y hy => Nat.le_trans B.size (F_w0a1 y hy)
      clear F_w0a1
      (try replace NB := NB.keep hb13)
      replace X0 := X0.keep hb13
      replace X1 := X1.keep hb13
      replace w0a0 := w0a0.keep hb13
      replace B := B.trans (hb13.mono B.size)
      clear hb13 fw0a1_0
      (try dsimp only)
      refine hK.out _ _ ⟨X0, X1⟩ (fun hS => ?_)
      clear hK K
      (try simp only [List.getElem_toArray]); (try simp only [List.getElem_cons_succ]); (try simp only [List.getElem_cons_zero]); (try simp only [Act.put]); (try simp only [List.setIfInBounds_toArray]); (try simp only [List.set_cons_succ]); (try simp only [List.set_cons_zero])
      refine wpAnyH_ready (rs := [4]) (by kernel_rfl) (by simp) ?_
      refine AllReadyH.cons (o := _) rfl (fun K hK => ?_) AllReadyH.nil
      rw [if_pos (by rfl)]
      go_simp
      go_at_call 7
      refine (HS.out _ _ _ (by exact w0a0.rd) (by exact w0a1.rd)).mono ?_
      rintro e w14 ⟨u, bw0_0, bw0_1, bw0_2, bw0_3, rfl, w0, fw0_0, fw0_1, fw0_2, fw0_3, hb14⟩
      obtain ⟨cs_w0, e_w0, R_w0⟩ := w0.row
      subst e_w0
      have F_w0 : ∀ y ∈ (bw0_0 ++ (bw0_1 ++ (bw0_2 ++ bw0_3))), w13.heap.size ≤ y := all_app fw0_0 (all_app fw0_1 (all_app fw0_2 fw0_3))
      (try have nbk_w0 : _ ∉ (bw0_0 ++ (bw0_1 ++ (bw0_2 ++ bw0_3))) := fun hm => Nat.not_lt.2 (F_w0 _ hm) NB.lt)
      have dj_w0a0_w0 : Dj (bw0a0_0 ++ (bw0a0_1 ++ bw0a0_2)) (bw0_0 ++ (bw0_1 ++ (bw0_2 ++ bw0_3))) := fun y hy hm => Nat.not_lt.2 (F_w0 y hm) (w0a0.lt y hy)
      have dj_w0a1_w0 : Dj bw0a1_0 (bw0_0 ++ (bw0_1 ++ (bw0_2 ++ bw0_3))) := fun y hy hm => Nat.not_lt.2 (F_w0 y hm) (w0a1.lt y hy)
      have nb_X0_w0 : w.heap.size ∉ (bw0_0 ++ (bw0_1 ++ (bw0_2 ++ bw0_3))) := fun hm => Nat.not_lt.2 (F_w0 _ hm) X0.lt
      have nb_X1_w0 : (w.heap.size + 1) ∉ (bw0_0 ++ (bw0_1 ++ (bw0_2 ++ bw0_3))) := fun hm => Nat.not_lt.2 (F_w0 _ hm) X1.lt
      have G_w0 : ∀ y ∈ (bw0_0 ++ (bw0_1 ++ (bw0_2 ++ bw0_3))), w.heap.size ≤ y := fun y hy => Nat.le_trans B.size (F_w0 y hy)
      clear F_w0
      (try replace NB := NB.keep hb14)
      replace X0 := X0.keep hb14
      replace X1 := X1.keep hb14
      replace w0a0 := w0a0.keep hb14
      replace w0a1 := w0a1.keep hb14
      replace B := B.trans (hb14.mono B.size)
      clear hb14 fw0_0 fw0_1 fw0_2 fw0_3
      (try dsimp only)
      refine hK.out _ _ ⟨X0, X1⟩ (fun hS => ?_)
      clear hK K
      (try simp only [List.getElem_toArray]); (try simp only [List.getElem_cons_succ]); (try simp only [List.getElem_cons_zero]); (try simp only [Act.put]); (try simp only [List.setIfInBounds_toArray]); (try simp only [List.set_cons_succ]); (try simp only [List.set_cons_zero])
      refine wpAnyH_ready (rs := [6]) (by kernel_rfl) (by simp) ?_
      refine AllReadyH.cons (o := _) rfl (fun K hK => ?_) AllReadyH.nil
      refine step_store_blk rfl 43 _ _ rfl w5.heap.size cs_w0 rfl rfl NB (by rw [R_w0.1]; rfl) (R_w0.hi (by kernel_rfl)) R_w0.2 ?_
      intro wE YE OE
      refine hK.out _ _ ⟨(X0.off OE (fun hm => nbx_X0 (List.mem_singleton.1 hm))), (X1.off OE (fun hm => nbx_X1 (List.mem_singleton.1 hm)))⟩ (fun hS => ?_)
      clear hK K
      (try simp only [List.getElem_toArray]); (try simp only [List.getElem_cons_succ]); (try simp only [List.getElem_cons_zero]); (try simp only [Act.put]); (try simp only [List.setIfInBounds_toArray]); (try simp only [List.set_cons_succ]); (try simp only [List.set_cons_zero])
      refine wpAnyH_done (by kernel_rfl) ?_ _
      have FIN : ∃ nz cs_w0 bw0_0 bw0_1 bw0_2 bw0_3, (Value.pointer (some ⟨w5.heap.size, 0, none⟩)) = .pointer (some ⟨nz, 0, none⟩) ∧ Blk wE w.heap.size 31 cs0 ∧ Blk wE (w.heap.size + 1) 33 cs1 ∧ Below w.heap.size w wE ∧ OwMixResult wE (.agg cs_w0) r bw0_0 bw0_1 bw0_2 bw0_3 ∧ Rw 19 cs_w0 ∧ Blk wE nz 43 cs_w0 ∧ w.heap.size ∉ (bw0_0 ++ (bw0_1 ++ (bw0_2 ++ bw0_3))) ∧ (w.heap.size + 1) ∉ (bw0_0 ++ (bw0_1 ++ (bw0_2 ++ bw0_3))) ∧ (∀ y ∈ (bw0_0 ++ (bw0_1 ++ (bw0_2 ++ bw0_3))), w.heap.size ≤ y) ∧ nz ∉ (bw0_0 ++ (bw0_1 ++ (bw0_2 ++ bw0_3))) := ⟨w5.heap.size, cs_w0, bw0_0, bw0_1, bw0_2, bw0_3, rfl, X0.off OE (fun hm => nbx_X0 (List.mem_singleton.1 hm)), X1.off OE (fun hm => nbx_X1 (List.mem_singleton.1 hm)), B.trans (OE.toBelow B.size (fun y hy => by rw [List.mem_singleton.1 hy]; exact gNB)), w0.off OE (fun y hy hm => nbk_w0 (by have e := List.mem_singleton.1 hm; subst e; exact hy)), R_w0, YE, nb_X0_w0, nb_X1_w0, G_w0, nbk_w0⟩
      go_wp2
      go_meet
      case rel => exact FIN
  case rest =>
    clear X0 X1 B 
    obtain ⟨nbw0, cs_w0, bw0_0, bw0_1, bw0_2, bw0_3, rfl, X0, X1, B, w0, R_w0, Yw0, nb_X0_w0, nb_X1_w0, G_w0, nb_Yw0_w0⟩ := hcut
    obtain ⟨wc15, ewc⟩ : ∃ x : World, x = wc := ⟨_, rfl⟩
    subst ewc
    go_wp2_with (first | (refine wpList_load_blkg (by rfl) 31 _ rfl w.heap.size rfl X0 Tryz.underlying31 rfl (RC0.hi (by kernel_rfl)) ?_) | (refine wpList_load_blkg (by rfl) 33 _ rfl (w.heap.size + 1) rfl X1 Tryz.underlying33 rfl (RC1.hi (by kernel_rfl)) ?_) | (refine wpList_load_blkg (by rfl) 43 _ rfl nbw0 rfl Yw0 Tryz.underlying43 rfl (R_w0.hi (by kernel_rfl)) ?_))
    refine (toNet_ow _ x0 _ (by exact r0.below B) (by omega)).mono ?_
    rintro e w16 ⟨u, bxc0_0, bxc0_1, bxc0_2, rfl, xc0, fxc0_0, fxc0_1, fxc0_2, hb16⟩
    obtain ⟨cs_xc0, e_xc0, R_xc0⟩ := xc0.row
    subst e_xc0
    have F_xc0 : ∀ y ∈ (bxc0_0 ++ (bxc0_1 ++ bxc0_2)), wc15.heap.size ≤ y := all_app fxc0_0 (all_app fxc0_1 fxc0_2)
    (try have nbk_xc0 : _ ∉ (bxc0_0 ++ (bxc0_1 ++ bxc0_2)) := fun hm => Nat.not_lt.2 (F_xc0 _ hm) NB.lt)
    have dj_w0_xc0 : Dj (bw0_0 ++ (bw0_1 ++ (bw0_2 ++ bw0_3))) (bxc0_0 ++ (bxc0_1 ++ bxc0_2)) := fun y hy hm => Nat.not_lt.2 (F_xc0 y hm) (w0.lt y hy)
    have nb_X0_xc0 : w.heap.size ∉ (bxc0_0 ++ (bxc0_1 ++ bxc0_2)) := fun hm => Nat.not_lt.2 (F_xc0 _ hm) X0.lt
    have nb_X1_xc0 : (w.heap.size + 1) ∉ (bxc0_0 ++ (bxc0_1 ++ bxc0_2)) := fun hm => Nat.not_lt.2 (F_xc0 _ hm) X1.lt
    have nb_Yw0_xc0 : nbw0 ∉ (bxc0_0 ++ (bxc0_1 ++ bxc0_2)) := fun hm => Nat.not_lt.2 (F_xc0 _ hm) Yw0.lt
    have G_xc0 : ∀ y ∈ (bxc0_0 ++ (bxc0_1 ++ bxc0_2)), w.heap.size ≤ y := fun y hy => Nat.le_trans B.size (F_xc0 y hy)
    clear F_xc0
    replace X0 := X0.keep hb16
    replace X1 := X1.keep hb16
    replace Yw0 := Yw0.keep hb16
    replace w0 := w0.keep hb16
    replace B := B.trans (hb16.mono B.size)
    (try replace NB := NB.keep hb16)
    clear hb16 fxc0_0 fxc0_1 fxc0_2
    go_wp2_with (first | (refine wpList_store_blk rfl 41 _ _ rfl w16.heap.size cs_xc0 rfl rfl (Blk.new _ _ _) (by rw [R_xc0.1]; rfl) (R_xc0.hi (by kernel_rfl)) R_xc0.2 ?_; intro w17 Z0 o17; have nb_Z0_w0 : w16.heap.size ∉ (bw0_0 ++ (bw0_1 ++ (bw0_2 ++ bw0_3))) := (fun hm => Nat.lt_irrefl _ (w0.lt _ hm)); have nb_Z0_xc0 : w16.heap.size ∉ (bxc0_0 ++ (bxc0_1 ++ bxc0_2)) := (fun hm => Nat.lt_irrefl _ (xc0.lt _ hm)); replace X0 := (X0.alloc _).off o17 (nbnew X0.lt); replace X1 := (X1.alloc _).off o17 (nbnew X1.lt); replace Yw0 := (Yw0.alloc _).off o17 (nbnew Yw0.lt); replace w0 := (w0.alloc _).off o17 (djnew w0.lt); replace xc0 := (xc0.alloc _).off o17 (djnew xc0.lt); replace B := below_past B o17; clear o17) | (refine wpList_load_blkg (by rfl) 31 _ rfl w.heap.size rfl X0 Tryz.underlying31 rfl (RC0.hi (by kernel_rfl)) ?_) | (refine wpList_load_blkg (by rfl) 33 _ rfl (w.heap.size + 1) rfl X1 Tryz.underlying33 rfl (RC1.hi (by kernel_rfl)) ?_) | (refine wpList_load_blkg (by rfl) 43 _ rfl nbw0 rfl Yw0 Tryz.underlying43 rfl (R_w0.hi (by kernel_rfl)) ?_) | (refine wpList_load_blkg (by rfl) 41 _ rfl w16.heap.size rfl Z0 Tryz.underlying41 rfl (R_xc0.hi (by kernel_rfl)) ?_))
    refine (toMirror_ow _ x1 _ (by exact r1.below B) (by omega)).mono ?_
    rintro e w18 ⟨u, bxc1_0, rfl, xc1, fxc1_0, hb18⟩
    obtain ⟨cs_xc1, e_xc1, R_xc1⟩ := xc1.row
    subst e_xc1
    have F_xc1 : ∀ y ∈ bxc1_0, w17.heap.size ≤ y := fxc1_0
    (try have nbk_xc1 : _ ∉ bxc1_0 := fun hm => Nat.not_lt.2 (F_xc1 _ hm) NB.lt)
    have dj_w0_xc1 : Dj (bw0_0 ++ (bw0_1 ++ (bw0_2 ++ bw0_3))) bxc1_0 := fun y hy hm => Nat.not_lt.2 (F_xc1 y hm) (w0.lt y hy)
    have dj_xc0_xc1 : Dj (bxc0_0 ++ (bxc0_1 ++ bxc0_2)) bxc1_0 := fun y hy hm => Nat.not_lt.2 (F_xc1 y hm) (xc0.lt y hy)
    have nb_X0_xc1 : w.heap.size ∉ bxc1_0 := fun hm => Nat.not_lt.2 (F_xc1 _ hm) X0.lt
    have nb_X1_xc1 : (w.heap.size + 1) ∉ bxc1_0 := fun hm => Nat.not_lt.2 (F_xc1 _ hm) X1.lt
    have nb_Yw0_xc1 : nbw0 ∉ bxc1_0 := fun hm => Nat.not_lt.2 (F_xc1 _ hm) Yw0.lt
    have nb_Z0_xc1 : w16.heap.size ∉ bxc1_0 := fun hm => Nat.not_lt.2 (F_xc1 _ hm) Z0.lt
    have G_xc1 : ∀ y ∈ bxc1_0, w.heap.size ≤ y := fun y hy => Nat.le_trans B.size (F_xc1 y hy)
    clear F_xc1
    replace X0 := X0.keep hb18
    replace X1 := X1.keep hb18
    replace Yw0 := Yw0.keep hb18
    replace Z0 := Z0.keep hb18
    replace w0 := w0.keep hb18
    replace xc0 := xc0.keep hb18
    replace B := B.trans (hb18.mono B.size)
    (try replace NB := NB.keep hb18)
    clear hb18 fxc1_0
    go_wp2_with (first | (refine wpList_store_blk rfl 36 _ _ rfl w18.heap.size cs_xc1 rfl rfl (Blk.new _ _ _) (by rw [R_xc1.1]; rfl) (R_xc1.hi (by kernel_rfl)) R_xc1.2 ?_; intro w19 Z1 o19; have nb_Z1_w0 : w18.heap.size ∉ (bw0_0 ++ (bw0_1 ++ (bw0_2 ++ bw0_3))) := (fun hm => Nat.lt_irrefl _ (w0.lt _ hm)); have nb_Z1_xc0 : w18.heap.size ∉ (bxc0_0 ++ (bxc0_1 ++ bxc0_2)) := (fun hm => Nat.lt_irrefl _ (xc0.lt _ hm)); have nb_Z1_xc1 : w18.heap.size ∉ bxc1_0 := (fun hm => Nat.lt_irrefl _ (xc1.lt _ hm)); replace X0 := (X0.alloc _).off o19 (nbnew X0.lt); replace X1 := (X1.alloc _).off o19 (nbnew X1.lt); replace Yw0 := (Yw0.alloc _).off o19 (nbnew Yw0.lt); replace Z0 := (Z0.alloc _).off o19 (nbnew Z0.lt); replace w0 := (w0.alloc _).off o19 (djnew w0.lt); replace xc0 := (xc0.alloc _).off o19 (djnew xc0.lt); replace xc1 := (xc1.alloc _).off o19 (djnew xc1.lt); replace B := below_past B o19; clear o19) | (refine wpList_load_blkg (by rfl) 31 _ rfl w.heap.size rfl X0 Tryz.underlying31 rfl (RC0.hi (by kernel_rfl)) ?_) | (refine wpList_load_blkg (by rfl) 33 _ rfl (w.heap.size + 1) rfl X1 Tryz.underlying33 rfl (RC1.hi (by kernel_rfl)) ?_) | (refine wpList_load_blkg (by rfl) 43 _ rfl nbw0 rfl Yw0 Tryz.underlying43 rfl (R_w0.hi (by kernel_rfl)) ?_) | (refine wpList_load_blkg (by rfl) 41 _ rfl w16.heap.size rfl Z0 Tryz.underlying41 rfl (R_xc0.hi (by kernel_rfl)) ?_) | (refine wpList_load_blkg (by rfl) 36 _ rfl w18.heap.size rfl Z1 Tryz.underlying36 rfl (R_xc1.hi (by kernel_rfl)) ?_))
    refine (HI.out _ _ _ (by exact xc0.rd) (by exact xc1.rd)).mono ?_
    rintro e w20 ⟨u, bg0_0, bg0_1, bg0_2, bg0_3, rfl, g0, fg0_0, fg0_1, fg0_2, fg0_3, hb20⟩
    obtain ⟨cs_g0, e_g0, R_g0⟩ := g0.row
    subst e_g0
    have F_g0 : ∀ y ∈ (bg0_0 ++ (bg0_1 ++ (bg0_2 ++ bg0_3))), w19.heap.size ≤ y := all_app fg0_0 (all_app fg0_1 (all_app fg0_2 fg0_3))
    (try have nbk_g0 : _ ∉ (bg0_0 ++ (bg0_1 ++ (bg0_2 ++ bg0_3))) := fun hm => Nat.not_lt.2 (F_g0 _ hm) NB.lt)
    have dj_w0_g0 : Dj (bw0_0 ++ (bw0_1 ++ (bw0_2 ++ bw0_3))) (bg0_0 ++ (bg0_1 ++ (bg0_2 ++ bg0_3))) := fun y hy hm => Nat.not_lt.2 (F_g0 y hm) (w0.lt y hy)
    have dj_xc0_g0 : Dj (bxc0_0 ++ (bxc0_1 ++ bxc0_2)) (bg0_0 ++ (bg0_1 ++ (bg0_2 ++ bg0_3))) := fun y hy hm => Nat.not_lt.2 (F_g0 y hm) (xc0.lt y hy)
    have dj_xc1_g0 : Dj bxc1_0 (bg0_0 ++ (bg0_1 ++ (bg0_2 ++ bg0_3))) := fun y hy hm => Nat.not_lt.2 (F_g0 y hm) (xc1.lt y hy)
    have nb_X0_g0 : w.heap.size ∉ (bg0_0 ++ (bg0_1 ++ (bg0_2 ++ bg0_3))) := fun hm => Nat.not_lt.2 (F_g0 _ hm) X0.lt
    have nb_X1_g0 : (w.heap.size + 1) ∉ (bg0_0 ++ (bg0_1 ++ (bg0_2 ++ bg0_3))) := fun hm => Nat.not_lt.2 (F_g0 _ hm) X1.lt
    have nb_Yw0_g0 : nbw0 ∉ (bg0_0 ++ (bg0_1 ++ (bg0_2 ++ bg0_3))) := fun hm => Nat.not_lt.2 (F_g0 _ hm) Yw0.lt
    have nb_Z0_g0 : w16.heap.size ∉ (bg0_0 ++ (bg0_1 ++ (bg0_2 ++ bg0_3))) := fun hm => Nat.not_lt.2 (F_g0 _ hm) Z0.lt
    have nb_Z1_g0 : w18.heap.size ∉ (bg0_0 ++ (bg0_1 ++ (bg0_2 ++ bg0_3))) := fun hm => Nat.not_lt.2 (F_g0 _ hm) Z1.lt
    have G_g0 : ∀ y ∈ (bg0_0 ++ (bg0_1 ++ (bg0_2 ++ bg0_3))), w.heap.size ≤ y := fun y hy => Nat.le_trans B.size (F_g0 y hy)
    clear F_g0
    (try replace NB := NB.keep hb20)
    replace X0 := X0.keep hb20
    replace X1 := X1.keep hb20
    replace Yw0 := Yw0.keep hb20
    replace Z0 := Z0.keep hb20
    replace Z1 := Z1.keep hb20
    replace w0 := w0.keep hb20
    replace xc0 := xc0.keep hb20
    replace xc1 := xc1.keep hb20
    replace B := B.trans (hb20.mono B.size)
    clear hb20 fg0_0 fg0_1 fg0_2 fg0_3
    go_wp2_with (first | (refine wpList_store_blk rfl 43 _ _ rfl w20.heap.size cs_g0 rfl rfl (Blk.new _ _ _) (by rw [R_g0.1]; rfl) (R_g0.hi (by kernel_rfl)) R_g0.2 ?_; intro w21 Yg0 o21; have nb_Yg0_w0 : w20.heap.size ∉ (bw0_0 ++ (bw0_1 ++ (bw0_2 ++ bw0_3))) := (fun hm => Nat.lt_irrefl _ (w0.lt _ hm)); have nb_Yg0_xc0 : w20.heap.size ∉ (bxc0_0 ++ (bxc0_1 ++ bxc0_2)) := (fun hm => Nat.lt_irrefl _ (xc0.lt _ hm)); have nb_Yg0_xc1 : w20.heap.size ∉ bxc1_0 := (fun hm => Nat.lt_irrefl _ (xc1.lt _ hm)); have nb_Yg0_g0 : w20.heap.size ∉ (bg0_0 ++ (bg0_1 ++ (bg0_2 ++ bg0_3))) := (fun hm => Nat.lt_irrefl _ (g0.lt _ hm)); replace X0 := (X0.alloc _).off o21 (nbnew X0.lt); replace X1 := (X1.alloc _).off o21 (nbnew X1.lt); replace Yw0 := (Yw0.alloc _).off o21 (nbnew Yw0.lt); replace Z0 := (Z0.alloc _).off o21 (nbnew Z0.lt); replace Z1 := (Z1.alloc _).off o21 (nbnew Z1.lt); replace w0 := (w0.alloc _).off o21 (djnew w0.lt); replace xc0 := (xc0.alloc _).off o21 (djnew xc0.lt); replace xc1 := (xc1.alloc _).off o21 (djnew xc1.lt); replace g0 := (g0.alloc _).off o21 (djnew g0.lt); replace B := below_past B o21; clear o21) | (refine wpList_load_blkg (by rfl) 31 _ rfl w.heap.size rfl X0 Tryz.underlying31 rfl (RC0.hi (by kernel_rfl)) ?_) | (refine wpList_load_blkg (by rfl) 33 _ rfl (w.heap.size + 1) rfl X1 Tryz.underlying33 rfl (RC1.hi (by kernel_rfl)) ?_) | (refine wpList_load_blkg (by rfl) 43 _ rfl nbw0 rfl Yw0 Tryz.underlying43 rfl (R_w0.hi (by kernel_rfl)) ?_) | (refine wpList_load_blkg (by rfl) 41 _ rfl w16.heap.size rfl Z0 Tryz.underlying41 rfl (R_xc0.hi (by kernel_rfl)) ?_) | (refine wpList_load_blkg (by rfl) 36 _ rfl w18.heap.size rfl Z1 Tryz.underlying36 rfl (R_xc1.hi (by kernel_rfl)) ?_) | (refine wpList_load_blkg (by rfl) 43 _ rfl w20.heap.size rfl Yg0 Tryz.underlying43 rfl (R_g0.hi (by kernel_rfl)) ?_))
    refine (eqMixResult_rd _ _ r _ (by exact g0.rd) (by exact w0.rd)).mono ?_
    rintro e w22 ⟨rfl, hb22⟩
    replace X0 := X0.keep hb22
    replace X1 := X1.keep hb22
    replace Yw0 := Yw0.keep hb22
    replace Z0 := Z0.keep hb22
    replace Z1 := Z1.keep hb22
    replace Yg0 := Yg0.keep hb22
    replace w0 := w0.keep hb22
    replace xc0 := xc0.keep hb22
    replace xc1 := xc1.keep hb22
    replace g0 := g0.keep hb22
    replace B := B.trans (hb22.mono B.size)
    (try replace NB := NB.keep hb22)
    clear hb22
    go_wp2_with fail
    refine wp_region_held (S := fun V => Blk V w16.heap.size 41 cs_xc0 ∧ Blk V w.heap.size 31 cs0) (by kernel_rfl) ?_
    try (change wpAnyH _ _ _ _ _ _ _ _ (World.drew _))
    have hS : (fun V => Blk V w16.heap.size 41 cs_xc0 ∧ Blk V w.heap.size 31 cs0) _ := ⟨Z0.drew, X0.drew⟩
    replace X0 := X0.drew
    replace X1 := X1.drew
    replace Yw0 := Yw0.drew
    replace Z0 := Z0.drew
    replace Z1 := Z1.drew
    replace Yg0 := Yg0.drew
    replace w0 := w0.drew
    replace xc0 := xc0.drew
    replace xc1 := xc1.drew
    replace g0 := g0.drew
    replace B := B.drew
    refine wpAnyH_take (i := 0) (v := _) rfl (by kernel_rfl) (by kernel_rfl) (by kernel_rfl) (fun _ _ _ h => h) (yieldsIf_load_mid (by rfl) _ _ rfl _ _ rfl _ _ (fun _ h => h.1.range) Tryz.underlying41 rfl (by simpa using (R_xc0.hi (by kernel_rfl)))) hS ?_
    (try simp only [List.getElem_toArray]); (try simp only [List.getElem_cons_succ]); (try simp only [List.getElem_cons_zero]); (try simp only [Act.put]); (try simp only [List.setIfInBounds_toArray]); (try simp only [List.set_cons_succ]); (try simp only [List.set_cons_zero])
    refine wpAnyH_take (i := 1) (v := _) rfl (by kernel_rfl) (by kernel_rfl) (by kernel_rfl) (fun _ _ _ h => h) (yieldsIf_load_mid (by rfl) _ _ rfl _ _ rfl _ _ (fun _ h => h.2.range) Tryz.underlying31 rfl (by simpa using (RC0.hi (by kernel_rfl)))) hS ?_
    (try simp only [List.getElem_toArray]); (try simp only [List.getElem_cons_succ]); (try simp only [List.getElem_cons_zero]); (try simp only [Act.put]); (try simp only [List.setIfInBounds_toArray]); (try simp only [List.set_cons_succ]); (try simp only [List.set_cons_zero])
    refine wpAnyH_ready (rs := [2]) (by kernel_rfl) (by simp) ?_
    refine AllReadyH.cons (o := _) rfl (fun K hK => ?_) AllReadyH.nil
    rw [if_pos (by rfl)]
    go_simp
    go_at_call 8
    refine (toNet_ow _ x0 _ (by exact r0.below B) (by omega)).mono ?_
    rintro e w23 ⟨u, by_0, by_1, by_2, rfl, y, fy_0, fy_1, fy_2, hb23⟩
    obtain ⟨cs_y, e_y, R_y⟩ := y.row
    subst e_y
    have F_y : ∀ y ∈ (by_0 ++ (by_1 ++ by_2)), w22.drew.heap.size ≤ y := all_app fy_0 (all_app fy_1 fy_2)
    (try have nbk_y : _ ∉ (by_0 ++ (by_1 ++ by_2)) := fun hm => Nat.not_lt.2 (F_y _ hm) NB.lt)
    have dj_w0_y : Dj (bw0_0 ++ (bw0_1 ++ (bw0_2 ++ bw0_3))) (by_0 ++ (by_1 ++ by_2)) := fun y hy hm => Nat.not_lt.2 (F_y y hm) (w0.lt y hy)
    have dj_xc0_y : Dj (bxc0_0 ++ (bxc0_1 ++ bxc0_2)) (by_0 ++ (by_1 ++ by_2)) := fun y hy hm => Nat.not_lt.2 (F_y y hm) (xc0.lt y hy)
    have dj_xc1_y : Dj bxc1_0 (by_0 ++ (by_1 ++ by_2)) := fun y hy hm => Nat.not_lt.2 (F_y y hm) (xc1.lt y hy)
    have dj_g0_y : Dj (bg0_0 ++ (bg0_1 ++ (bg0_2 ++ bg0_3))) (by_0 ++ (by_1 ++ by_2)) := fun y hy hm => Nat.not_lt.2 (F_y y hm) (g0.lt y hy)
    have nb_X0_y : w.heap.size ∉ (by_0 ++ (by_1 ++ by_2)) := fun hm => Nat.not_lt.2 (F_y _ hm) X0.lt
    have nb_X1_y : (w.heap.size + 1) ∉ (by_0 ++ (by_1 ++ by_2)) := fun hm => Nat.not_lt.2 (F_y _ hm) X1.lt
    have nb_Yw0_y : nbw0 ∉ (by_0 ++ (by_1 ++ by_2)) := fun hm => Nat.not_lt.2 (F_y _ hm) Yw0.lt
    have nb_Z0_y : w16.heap.size ∉ (by_0 ++ (by_1 ++ by_2)) := fun hm => Nat.not_lt.2 (F_y _ hm) Z0.lt
    have nb_Z1_y : w18.heap.size ∉ (by_0 ++ (by_1 ++ by_2)) := fun hm => Nat.not_lt.2 (F_y _ hm) Z1.lt
    have nb_Yg0_y : w20.heap.size ∉ (by_0 ++ (by_1 ++ by_2)) := fun hm => Nat.not_lt.2 (F_y _ hm) Yg0.lt
    have G_y : ∀ y ∈ (by_0 ++ (by_1 ++ by_2)), w.heap.size ≤ y := fun y hy => Nat.le_trans B.size (F_y y hy)
    clear F_y
    replace X0 := X0.keep hb23
    replace X1 := X1.keep hb23
    replace Yw0 := Yw0.keep hb23
    replace Z0 := Z0.keep hb23
    replace Z1 := Z1.keep hb23
    replace Yg0 := Yg0.keep hb23
    replace w0 := w0.keep hb23
    replace xc0 := xc0.keep hb23
    replace xc1 := xc1.keep hb23
    replace g0 := g0.keep hb23
    replace B := B.trans (hb23.mono B.size)
    (try replace NB := NB.keep hb23)
    clear hb23 fy_0 fy_1 fy_2
    dsimp only
    refine hK.out _ _ ⟨Z0, X0⟩ (fun hS => ?_)
    clear hK K
    (try simp only [List.getElem_toArray]); (try simp only [List.getElem_cons_succ]); (try simp only [List.getElem_cons_zero]); (try simp only [Act.put]); (try simp only [List.setIfInBounds_toArray]); (try simp only [List.set_cons_succ]); (try simp only [List.set_cons_zero])
    refine wpAnyH_ready (rs := [3]) (by kernel_rfl) (by simp) ?_
    refine AllReadyH.cons (o := _) rfl (fun K hK => ?_) AllReadyH.nil
    rw [if_pos (by rfl)]
    go_simp
    go_at_call 12
    refine (eqNet_rd _ _ x0 _ (by exact xc0.rd) (by exact y.rd)).mono ?_
    rintro e w24 ⟨rfl, hb24⟩
    replace X0 := X0.keep hb24
    replace X1 := X1.keep hb24
    replace Yw0 := Yw0.keep hb24
    replace Z0 := Z0.keep hb24
    replace Z1 := Z1.keep hb24
    replace Yg0 := Yg0.keep hb24
    replace w0 := w0.keep hb24
    replace xc0 := xc0.keep hb24
    replace xc1 := xc1.keep hb24
    replace g0 := g0.keep hb24
    replace y := y.keep hb24
    replace B := B.trans (hb24.mono B.size)
    (try replace NB := NB.keep hb24)
    clear hb24
    dsimp only
    refine hK.out _ _ ⟨Z0, X0⟩ (fun hS => ?_)
    clear hK K
    (try simp only [List.getElem_toArray]); (try simp only [List.getElem_cons_succ]); (try simp only [List.getElem_cons_zero]); (try simp only [Act.put]); (try simp only [List.setIfInBounds_toArray]); (try simp only [List.set_cons_succ]); (try simp only [List.set_cons_zero])
    refine wpAnyH_take (i := 4) (v := .bool false) rfl (by kernel_rfl) (by kernel_rfl) (by kernel_rfl) (fun _ _ _ h => h) (Or.inl ⟨by rfl, ?_⟩) hS ?_
    · intro w' hSw
      go_simp
    (try simp only [List.getElem_toArray]); (try simp only [List.getElem_cons_succ]); (try simp only [List.getElem_cons_zero]); (try simp only [Act.put]); (try simp only [List.setIfInBounds_toArray]); (try simp only [List.set_cons_succ]); (try simp only [List.set_cons_zero])
    refine wpAnyH_done (by kernel_rfl) ?_ _
    clear y G_y
    clear hS
    go_wp2_with fail
    refine wp_region_held (S := fun V => Blk V w18.heap.size 36 cs_xc1 ∧ Blk V (w.heap.size + 1) 33 cs1) (by kernel_rfl) ?_
    try (change wpAnyH _ _ _ _ _ _ _ _ (World.drew _))
    have hS : (fun V => Blk V w18.heap.size 36 cs_xc1 ∧ Blk V (w.heap.size + 1) 33 cs1) _ := ⟨Z1.drew, X1.drew⟩
    replace X0 := X0.drew
    replace X1 := X1.drew
    replace Yw0 := Yw0.drew
    replace Z0 := Z0.drew
    replace Z1 := Z1.drew
    replace Yg0 := Yg0.drew
    replace w0 := w0.drew
    replace xc0 := xc0.drew
    replace xc1 := xc1.drew
    replace g0 := g0.drew
    replace B := B.drew
    refine wpAnyH_take (i := 0) (v := _) rfl (by kernel_rfl) (by kernel_rfl) (by kernel_rfl) (fun _ _ _ h => h) (yieldsIf_load_mid (by rfl) _ _ rfl _ _ rfl _ _ (fun _ h => h.1.range) Tryz.underlying36 rfl (by simpa using (R_xc1.hi (by kernel_rfl)))) hS ?_
    (try simp only [List.getElem_toArray]); (try simp only [List.getElem_cons_succ]); (try simp only [List.getElem_cons_zero]); (try simp only [Act.put]); (try simp only [List.setIfInBounds_toArray]); (try simp only [List.set_cons_succ]); (try simp only [List.set_cons_zero])
    refine wpAnyH_take (i := 1) (v := _) rfl (by kernel_rfl) (by kernel_rfl) (by kernel_rfl) (fun _ _ _ h => h) (yieldsIf_load_mid (by rfl) _ _ rfl _ _ rfl _ _ (fun _ h => h.2.range) Tryz.underlying33 rfl (by simpa using (RC1.hi (by kernel_rfl)))) hS ?_
    (try simp only [List.getElem_toArray]); (try simp only [List.getElem_cons_succ]); (try simp only [List.getElem_cons_zero]); (try simp only [Act.put]); (try simp only [List.setIfInBounds_toArray]); (try simp only [List.set_cons_succ]); (try simp only [List.set_cons_zero])
    refine wpAnyH_ready (rs := [2]) (by kernel_rfl) (by simp) ?_
    refine AllReadyH.cons (o := _) rfl (fun K hK => ?_) AllReadyH.nil
    rw [if_pos (by rfl)]
    go_simp
    go_at_call 9
    refine (toMirror_ow _ x1 _ (by exact r1.below B) (by omega)).mono ?_
    rintro e w25 ⟨u, by_0, rfl, y, fy_0, hb25⟩
    obtain ⟨cs_y, e_y, R_y⟩ := y.row
    subst e_y
    have F_y : ∀ y ∈ by_0, w24.drew.heap.size ≤ y := fy_0
    (try have nbk_y : _ ∉ by_0 := fun hm => Nat.not_lt.2 (F_y _ hm) NB.lt)
    have dj_w0_y : Dj (bw0_0 ++ (bw0_1 ++ (bw0_2 ++ bw0_3))) by_0 := fun y hy hm => Nat.not_lt.2 (F_y y hm) (w0.lt y hy)
    have dj_xc0_y : Dj (bxc0_0 ++ (bxc0_1 ++ bxc0_2)) by_0 := fun y hy hm => Nat.not_lt.2 (F_y y hm) (xc0.lt y hy)
    have dj_xc1_y : Dj bxc1_0 by_0 := fun y hy hm => Nat.not_lt.2 (F_y y hm) (xc1.lt y hy)
    have dj_g0_y : Dj (bg0_0 ++ (bg0_1 ++ (bg0_2 ++ bg0_3))) by_0 := fun y hy hm => Nat.not_lt.2 (F_y y hm) (g0.lt y hy)
    have nb_X0_y : w.heap.size ∉ by_0 := fun hm => Nat.not_lt.2 (F_y _ hm) X0.lt
    have nb_X1_y : (w.heap.size + 1) ∉ by_0 := fun hm => Nat.not_lt.2 (F_y _ hm) X1.lt
    have nb_Yw0_y : nbw0 ∉ by_0 := fun hm => Nat.not_lt.2 (F_y _ hm) Yw0.lt
    have nb_Z0_y : w16.heap.size ∉ by_0 := fun hm => Nat.not_lt.2 (F_y _ hm) Z0.lt
    have nb_Z1_y : w18.heap.size ∉ by_0 := fun hm => Nat.not_lt.2 (F_y _ hm) Z1.lt
    have nb_Yg0_y : w20.heap.size ∉ by_0 := fun hm => Nat.not_lt.2 (F_y _ hm) Yg0.lt
    have G_y : ∀ y ∈ by_0, w.heap.size ≤ y := fun y hy => Nat.le_trans B.size (F_y y hy)
    clear F_y
    replace X0 := X0.keep hb25
    replace X1 := X1.keep hb25
    replace Yw0 := Yw0.keep hb25
    replace Z0 := Z0.keep hb25
    replace Z1 := Z1.keep hb25
    replace Yg0 := Yg0.keep hb25
    replace w0 := w0.keep hb25
    replace xc0 := xc0.keep hb25
    replace xc1 := xc1.keep hb25
    replace g0 := g0.keep hb25
    replace B := B.trans (hb25.mono B.size)
    (try replace NB := NB.keep hb25)
    clear hb25 fy_0
    dsimp only
    refine hK.out _ _ ⟨Z1, X1⟩ (fun hS => ?_)
    clear hK K
    (try simp only [List.getElem_toArray]); (try simp only [List.getElem_cons_succ]); (try simp only [List.getElem_cons_zero]); (try simp only [Act.put]); (try simp only [List.setIfInBounds_toArray]); (try simp only [List.set_cons_succ]); (try simp only [List.set_cons_zero])
    refine wpAnyH_ready (rs := [3]) (by kernel_rfl) (by simp) ?_
    refine AllReadyH.cons (o := _) rfl (fun K hK => ?_) AllReadyH.nil
    rw [if_pos (by rfl)]
    go_simp
    go_at_call 13
    refine (eqMirror_rd _ _ x1 _ (by exact xc1.rd) (by exact y.rd)).mono ?_
    rintro e w26 ⟨rfl, hb26⟩
    replace X0 := X0.keep hb26
    replace X1 := X1.keep hb26
    replace Yw0 := Yw0.keep hb26
    replace Z0 := Z0.keep hb26
    replace Z1 := Z1.keep hb26
    replace Yg0 := Yg0.keep hb26
    replace w0 := w0.keep hb26
    replace xc0 := xc0.keep hb26
    replace xc1 := xc1.keep hb26
    replace g0 := g0.keep hb26
    replace y := y.keep hb26
    replace B := B.trans (hb26.mono B.size)
    (try replace NB := NB.keep hb26)
    clear hb26
    dsimp only
    refine hK.out _ _ ⟨Z1, X1⟩ (fun hS => ?_)
    clear hK K
    (try simp only [List.getElem_toArray]); (try simp only [List.getElem_cons_succ]); (try simp only [List.getElem_cons_zero]); (try simp only [Act.put]); (try simp only [List.setIfInBounds_toArray]); (try simp only [List.set_cons_succ]); (try simp only [List.set_cons_zero])
    refine wpAnyH_take (i := 4) (v := .bool false) rfl (by kernel_rfl) (by kernel_rfl) (by kernel_rfl) (fun _ _ _ h => h) (Or.inl ⟨by rfl, ?_⟩) hS ?_
    · intro w' hSw
      go_simp
    (try simp only [List.getElem_toArray]); (try simp only [List.getElem_cons_succ]); (try simp only [List.getElem_cons_zero]); (try simp only [Act.put]); (try simp only [List.setIfInBounds_toArray]); (try simp only [List.set_cons_succ]); (try simp only [List.set_cons_zero])
    refine wpAnyH_done (by kernel_rfl) ?_ _
    clear y G_y
    clear hS
    go_wp2_with (first | (refine wpList_load_blkg (by rfl) 31 _ rfl w.heap.size rfl X0 Tryz.underlying31 rfl (RC0.hi (by kernel_rfl)) ?_) | (refine wpList_load_blkg (by rfl) 33 _ rfl (w.heap.size + 1) rfl X1 Tryz.underlying33 rfl (RC1.hi (by kernel_rfl)) ?_) | (refine wpList_load_blkg (by rfl) 43 _ rfl nbw0 rfl Yw0 Tryz.underlying43 rfl (R_w0.hi (by kernel_rfl)) ?_) | (refine wpList_load_blkg (by rfl) 41 _ rfl w16.heap.size rfl Z0 Tryz.underlying41 rfl (R_xc0.hi (by kernel_rfl)) ?_) | (refine wpList_load_blkg (by rfl) 36 _ rfl w18.heap.size rfl Z1 Tryz.underlying36 rfl (R_xc1.hi (by kernel_rfl)) ?_) | (refine wpList_load_blkg (by rfl) 43 _ rfl w20.heap.size rfl Yg0 Tryz.underlying43 rfl (R_g0.hi (by kernel_rfl)) ?_))
    refine (markNet_ow _ x0 bxc0_0 bxc0_1 bxc0_2 _ _ (by exact xc0) (by omega) (by omega)).mono ?_
    rintro e w27 ⟨rfl, mm, oo⟩
    replace X0 := X0.off oo nb_X0_xc0
    replace X1 := X1.off oo nb_X1_xc0
    replace Yw0 := Yw0.off oo nb_Yw0_xc0
    replace Z0 := Z0.off oo nb_Z0_xc0
    replace Z1 := Z1.off oo nb_Z1_xc0
    replace Yg0 := Yg0.off oo nb_Yg0_xc0
    replace w0 := w0.off oo dj_w0_xc0
    replace xc1 := xc1.off oo dj_xc0_xc1.symm
    replace g0 := g0.off oo dj_xc0_g0.symm
    replace B := B.trans (oo.toBelow B.size G_xc0)
    clear xc0 oo
    have xc0 := mm
    clear mm
    go_wp2_with (first | (refine wpList_load_blkg (by rfl) 31 _ rfl w.heap.size rfl X0 Tryz.underlying31 rfl (RC0.hi (by kernel_rfl)) ?_) | (refine wpList_load_blkg (by rfl) 33 _ rfl (w.heap.size + 1) rfl X1 Tryz.underlying33 rfl (RC1.hi (by kernel_rfl)) ?_) | (refine wpList_load_blkg (by rfl) 43 _ rfl nbw0 rfl Yw0 Tryz.underlying43 rfl (R_w0.hi (by kernel_rfl)) ?_) | (refine wpList_load_blkg (by rfl) 41 _ rfl w16.heap.size rfl Z0 Tryz.underlying41 rfl (R_xc0.hi (by kernel_rfl)) ?_) | (refine wpList_load_blkg (by rfl) 36 _ rfl w18.heap.size rfl Z1 Tryz.underlying36 rfl (R_xc1.hi (by kernel_rfl)) ?_) | (refine wpList_load_blkg (by rfl) 43 _ rfl w20.heap.size rfl Yg0 Tryz.underlying43 rfl (R_g0.hi (by kernel_rfl)) ?_))
    refine (markMirror_ow _ x1 bxc1_0 _ _ (by exact xc1) (by omega) (by omega)).mono ?_
    rintro e w28 ⟨rfl, mm, oo⟩
    replace X0 := X0.off oo nb_X0_xc1
    replace X1 := X1.off oo nb_X1_xc1
    replace Yw0 := Yw0.off oo nb_Yw0_xc1
    replace Z0 := Z0.off oo nb_Z0_xc1
    replace Z1 := Z1.off oo nb_Z1_xc1
    replace Yg0 := Yg0.off oo nb_Yg0_xc1
    replace w0 := w0.off oo dj_w0_xc1
    replace xc0 := xc0.off oo dj_xc0_xc1
    replace g0 := g0.off oo dj_xc1_g0.symm
    replace B := B.trans (oo.toBelow B.size G_xc1)
    clear xc1 oo
    have xc1 := mm
    clear mm
    go_wp2_with (first | (refine wpList_load_blkg (by rfl) 31 _ rfl w.heap.size rfl X0 Tryz.underlying31 rfl (RC0.hi (by kernel_rfl)) ?_) | (refine wpList_load_blkg (by rfl) 33 _ rfl (w.heap.size + 1) rfl X1 Tryz.underlying33 rfl (RC1.hi (by kernel_rfl)) ?_) | (refine wpList_load_blkg (by rfl) 43 _ rfl nbw0 rfl Yw0 Tryz.underlying43 rfl (R_w0.hi (by kernel_rfl)) ?_) | (refine wpList_load_blkg (by rfl) 41 _ rfl w16.heap.size rfl Z0 Tryz.underlying41 rfl (R_xc0.hi (by kernel_rfl)) ?_) | (refine wpList_load_blkg (by rfl) 36 _ rfl w18.heap.size rfl Z1 Tryz.underlying36 rfl (R_xc1.hi (by kernel_rfl)) ?_) | (refine wpList_load_blkg (by rfl) 43 _ rfl w20.heap.size rfl Yg0 Tryz.underlying43 rfl (R_g0.hi (by kernel_rfl)) ?_))
    refine (eqMixResult_rd _ _ r _ (by exact g0.rd) (by exact w0.rd)).mono ?_
    rintro e w29 ⟨rfl, hb29⟩
    replace X0 := X0.keep hb29
    replace X1 := X1.keep hb29
    replace Yw0 := Yw0.keep hb29
    replace Z0 := Z0.keep hb29
    replace Z1 := Z1.keep hb29
    replace Yg0 := Yg0.keep hb29
    replace w0 := w0.keep hb29
    replace xc0 := xc0.keep hb29
    replace xc1 := xc1.keep hb29
    replace g0 := g0.keep hb29
    replace B := B.trans (hb29.mono B.size)
    (try replace NB := NB.keep hb29)
    clear hb29
    go_wp2_with (first | (refine wpList_load_blkg (by rfl) 31 _ rfl w.heap.size rfl X0 Tryz.underlying31 rfl (RC0.hi (by kernel_rfl)) ?_) | (refine wpList_load_blkg (by rfl) 33 _ rfl (w.heap.size + 1) rfl X1 Tryz.underlying33 rfl (RC1.hi (by kernel_rfl)) ?_) | (refine wpList_load_blkg (by rfl) 43 _ rfl nbw0 rfl Yw0 Tryz.underlying43 rfl (R_w0.hi (by kernel_rfl)) ?_) | (refine wpList_load_blkg (by rfl) 41 _ rfl w16.heap.size rfl Z0 Tryz.underlying41 rfl (R_xc0.hi (by kernel_rfl)) ?_) | (refine wpList_load_blkg (by rfl) 36 _ rfl w18.heap.size rfl Z1 Tryz.underlying36 rfl (R_xc1.hi (by kernel_rfl)) ?_) | (refine wpList_load_blkg (by rfl) 43 _ rfl w20.heap.size rfl Yg0 Tryz.underlying43 rfl (R_g0.hi (by kernel_rfl)) ?_))
    refine (markMixResult_ow _ r bg0_0 bg0_1 bg0_2 bg0_3 _ _ (by exact g0) (by omega) (by omega)).mono ?_
    rintro e w30 ⟨rfl, mm, oo⟩
    replace X0 := X0.off oo nb_X0_g0
    replace X1 := X1.off oo nb_X1_g0
    replace Yw0 := Yw0.off oo nb_Yw0_g0
    replace Z0 := Z0.off oo nb_Z0_g0
    replace Z1 := Z1.off oo nb_Z1_g0
    replace Yg0 := Yg0.off oo nb_Yg0_g0
    replace w0 := w0.off oo dj_w0_g0
    replace xc0 := xc0.off oo dj_xc0_g0
    replace xc1 := xc1.off oo dj_xc1_g0
    replace B := B.trans (oo.toBelow B.size G_g0)
    clear g0 oo
    have g0 := mm
    clear mm
    go_wp2_with (first | (refine wpList_load_blkg (by rfl) 31 _ rfl w.heap.size rfl X0 Tryz.underlying31 rfl (RC0.hi (by kernel_rfl)) ?_) | (refine wpList_load_blkg (by rfl) 33 _ rfl (w.heap.size + 1) rfl X1 Tryz.underlying33 rfl (RC1.hi (by kernel_rfl)) ?_) | (refine wpList_load_blkg (by rfl) 43 _ rfl nbw0 rfl Yw0 Tryz.underlying43 rfl (R_w0.hi (by kernel_rfl)) ?_) | (refine wpList_load_blkg (by rfl) 41 _ rfl w16.heap.size rfl Z0 Tryz.underlying41 rfl (R_xc0.hi (by kernel_rfl)) ?_) | (refine wpList_load_blkg (by rfl) 36 _ rfl w18.heap.size rfl Z1 Tryz.underlying36 rfl (R_xc1.hi (by kernel_rfl)) ?_) | (refine wpList_load_blkg (by rfl) 43 _ rfl w20.heap.size rfl Yg0 Tryz.underlying43 rfl (R_g0.hi (by kernel_rfl)) ?_))
    refine (heldMixResult_rd _ r _ _ (by exact g0.rd) (by omega) (by omega)).mono ?_
    rintro e w31 ⟨rfl, hb31⟩
    replace X0 := X0.keep hb31
    replace X1 := X1.keep hb31
    replace Yw0 := Yw0.keep hb31
    replace Z0 := Z0.keep hb31
    replace Z1 := Z1.keep hb31
    replace Yg0 := Yg0.keep hb31
    replace w0 := w0.keep hb31
    replace xc0 := xc0.keep hb31
    replace xc1 := xc1.keep hb31
    replace g0 := g0.keep hb31
    replace B := B.trans (hb31.mono B.size)
    (try replace NB := NB.keep hb31)
    clear hb31
    go_wp2_with fail
    (try simp only [Act.put])
    go_cut [13] from 14 (fun s wr => ∃ nz cs_h0 bh0_0 bh0_1 bh0_2 bh0_3, s = .pointer (some ⟨nz, 0, none⟩) ∧ Blk wr w.heap.size 31 cs0 ∧ Blk wr (w.heap.size + 1) 33 cs1 ∧ Blk wr nbw0 43 cs_w0 ∧ Blk wr w16.heap.size 41 cs_xc0 ∧ Blk wr w18.heap.size 36 cs_xc1 ∧ Blk wr w20.heap.size 43 cs_g0 ∧ Below w.heap.size w wr ∧ OwMixResult wr (.agg cs_w0) r bw0_0 bw0_1 bw0_2 bw0_3 ∧ OwNet wr (.agg cs_xc0) (mkNet 1 x0) bxc0_0 bxc0_1 bxc0_2 ∧ OwMirror wr (.agg cs_xc1) (mkMirror (1 + (cntNet x0 : Nat)) x1) bxc1_0 ∧ OwMixResult wr (.agg cs_g0) (mkMixResult 1 r) bg0_0 bg0_1 bg0_2 bg0_3 ∧ OwMixResult wr (.agg cs_h0) r bh0_0 bh0_1 bh0_2 bh0_3 ∧ Rw 19 cs_h0 ∧ Blk wr nz 43 cs_h0 ∧ Dj (bw0_0 ++ (bw0_1 ++ (bw0_2 ++ bw0_3))) (bh0_0 ++ (bh0_1 ++ (bh0_2 ++ bh0_3))) ∧ Dj (bxc0_0 ++ (bxc0_1 ++ bxc0_2)) (bh0_0 ++ (bh0_1 ++ (bh0_2 ++ bh0_3))) ∧ Dj bxc1_0 (bh0_0 ++ (bh0_1 ++ (bh0_2 ++ bh0_3))) ∧ Dj (bg0_0 ++ (bg0_1 ++ (bg0_2 ++ bg0_3))) (bh0_0 ++ (bh0_1 ++ (bh0_2 ++ bh0_3))) ∧ w.heap.size ∉ (bh0_0 ++ (bh0_1 ++ (bh0_2 ++ bh0_3))) ∧ (w.heap.size + 1) ∉ (bh0_0 ++ (bh0_1 ++ (bh0_2 ++ bh0_3))) ∧ nbw0 ∉ (bh0_0 ++ (bh0_1 ++ (bh0_2 ++ bh0_3))) ∧ w16.heap.size ∉ (bh0_0 ++ (bh0_1 ++ (bh0_2 ++ bh0_3))) ∧ w18.heap.size ∉ (bh0_0 ++ (bh0_1 ++ (bh0_2 ++ bh0_3))) ∧ w20.heap.size ∉ (bh0_0 ++ (bh0_1 ++ (bh0_2 ++ bh0_3))) ∧ (∀ y ∈ (bh0_0 ++ (bh0_1 ++ (bh0_2 ++ bh0_3))), w.heap.size ≤ y) ∧ nz ∉ (bw0_0 ++ (bw0_1 ++ (bw0_2 ++ bw0_3))) ∧ nz ∉ (bxc0_0 ++ (bxc0_1 ++ bxc0_2)) ∧ nz ∉ bxc1_0 ∧ nz ∉ (bg0_0 ++ (bg0_1 ++ (bg0_2 ++ bg0_3))) ∧ nz ∉ (bh0_0 ++ (bh0_1 ++ (bh0_2 ++ bh0_3))))
    case first =>
      refine wp_region_held (S := fun V => Blk V w.heap.size 31 cs0 ∧ Blk V (w.heap.size + 1) 33 cs1) (by kernel_rfl) ?_
      try (change wpAnyH _ _ _ _ _ _ _ _ (World.drew _))
      have hS : (fun V => Blk V w.heap.size 31 cs0 ∧ Blk V (w.heap.size + 1) 33 cs1) _ := ⟨X0.drew, X1.drew⟩
      replace X0 := X0.drew
      replace X1 := X1.drew
      replace Yw0 := Yw0.drew
      replace Z0 := Z0.drew
      replace Z1 := Z1.drew
      replace Yg0 := Yg0.drew
      replace w0 := w0.drew
      replace xc0 := xc0.drew
      replace xc1 := xc1.drew
      replace g0 := g0.drew
      replace B := B.drew
      refine wpAnyH_take (i := 0) (v := _) rfl (by kernel_rfl) (by kernel_rfl) (by kernel_rfl) (fun _ _ _ h => h) (yieldsIf_load_mid (by rfl) _ _ rfl _ _ rfl _ _ (fun _ h => h.1.range) Tryz.underlying31 rfl (by simpa using (RC0.hi (by kernel_rfl)))) hS ?_
      (try simp only [List.getElem_toArray]); (try simp only [List.getElem_cons_succ]); (try simp only [List.getElem_cons_zero]); (try simp only [Act.put]); (try simp only [List.setIfInBounds_toArray]); (try simp only [List.set_cons_succ]); (try simp only [List.set_cons_zero])
      refine wpAnyH_take (i := 2) (v := _) rfl (by kernel_rfl) (by kernel_rfl) (by kernel_rfl) (fun _ _ _ h => h) (yieldsIf_load_mid (by rfl) _ _ rfl _ _ rfl _ _ (fun _ h => h.2.range) Tryz.underlying33 rfl (by simpa using (RC1.hi (by kernel_rfl)))) hS ?_
      (try simp only [List.getElem_toArray]); (try simp only [List.getElem_cons_succ]); (try simp only [List.getElem_cons_zero]); (try simp only [Act.put]); (try simp only [List.setIfInBounds_toArray]); (try simp only [List.set_cons_succ]); (try simp only [List.set_cons_zero])
      refine wpAnyH_ready (rs := [1, 5]) (by kernel_rfl) (by simp) ?_
      refine AllReadyH.cons (o := _) rfl (fun K hK => ?_) (AllReadyH.cons (o := _) rfl (fun K hK => ?_) AllReadyH.nil)
      · rw [if_pos (by rfl)]
        go_simp
        go_at_call 8
        refine (toNet_ow _ x0 _ (by exact r0.below B) (by omega)).mono ?_
        rintro e w32 ⟨u, bh0a0_0, bh0a0_1, bh0a0_2, rfl, h0a0, fh0a0_0, fh0a0_1, fh0a0_2, hb32⟩
        obtain ⟨cs_h0a0, e_h0a0, R_h0a0⟩ := h0a0.row
        subst e_h0a0
        have F_h0a0 : ∀ y ∈ (bh0a0_0 ++ (bh0a0_1 ++ bh0a0_2)), w31.drew.heap.size ≤ y := all_app fh0a0_0 (all_app fh0a0_1 fh0a0_2)
        (try have nbk_h0a0 : _ ∉ (bh0a0_0 ++ (bh0a0_1 ++ bh0a0_2)) := fun hm => Nat.not_lt.2 (F_h0a0 _ hm) NB.lt)
        have dj_w0_h0a0 : Dj (bw0_0 ++ (bw0_1 ++ (bw0_2 ++ bw0_3))) (bh0a0_0 ++ (bh0a0_1 ++ bh0a0_2)) := fun y hy hm => Nat.not_lt.2 (F_h0a0 y hm) (w0.lt y hy)
        have dj_xc0_h0a0 : Dj (bxc0_0 ++ (bxc0_1 ++ bxc0_2)) (bh0a0_0 ++ (bh0a0_1 ++ bh0a0_2)) := fun y hy hm => Nat.not_lt.2 (F_h0a0 y hm) (xc0.lt y hy)
        have dj_xc1_h0a0 : Dj bxc1_0 (bh0a0_0 ++ (bh0a0_1 ++ bh0a0_2)) := fun y hy hm => Nat.not_lt.2 (F_h0a0 y hm) (xc1.lt y hy)
        have dj_g0_h0a0 : Dj (bg0_0 ++ (bg0_1 ++ (bg0_2 ++ bg0_3))) (bh0a0_0 ++ (bh0a0_1 ++ bh0a0_2)) := fun y hy hm => Nat.not_lt.2 (F_h0a0 y hm) (g0.lt y hy)
        have nb_X0_h0a0 : w.heap.size ∉ (bh0a0_0 ++ (bh0a0_1 ++ bh0a0_2)) := fun hm => Nat.not_lt.2 (F_h0a0 _ hm) X0.lt
        have nb_X1_h0a0 : (w.heap.size + 1) ∉ (bh0a0_0 ++ (bh0a0_1 ++ bh0a0_2)) := fun hm => Nat.not_lt.2 (F_h0a0 _ hm) X1.lt
        have nb_Yw0_h0a0 : nbw0 ∉ (bh0a0_0 ++ (bh0a0_1 ++ bh0a0_2)) := fun hm => Nat.not_lt.2 (F_h0a0 _ hm) Yw0.lt
        have nb_Z0_h0a0 : w16.heap.size ∉ (bh0a0_0 ++ (bh0a0_1 ++ bh0a0_2)) := fun hm => Nat.not_lt.2 (F_h0a0 _ hm) Z0.lt
        have nb_Z1_h0a0 : w18.heap.size ∉ (bh0a0_0 ++ (bh0a0_1 ++ bh0a0_2)) := fun hm => Nat.not_lt.2 (F_h0a0 _ hm) Z1.lt
        have nb_Yg0_h0a0 : w20.heap.size ∉ (bh0a0_0 ++ (bh0a0_1 ++ bh0a0_2)) := fun hm => Nat.not_lt.2 (F_h0a0 _ hm) Yg0.lt
        have G_h0a0 : ∀ y ∈ (bh0a0_0 ++ (bh0a0_1 ++ bh0a0_2)), w.heap.size ≤ y := fun y hy => Nat.le_trans B.size (F_h0a0 y hy)
        clear F_h0a0
        (try replace NB := NB.keep hb32)
        replace X0 := X0.keep hb32
        replace X1 := X1.keep hb32
        replace Yw0 := Yw0.keep hb32
        replace Z0 := Z0.keep hb32
        replace Z1 := Z1.keep hb32
        replace Yg0 := Yg0.keep hb32
        replace w0 := w0.keep hb32
        replace xc0 := xc0.keep hb32
        replace xc1 := xc1.keep hb32
        replace g0 := g0.keep hb32
        replace B := B.trans (hb32.mono B.size)
        clear hb32 fh0a0_0 fh0a0_1 fh0a0_2
        (try dsimp only)
        refine hK.out _ _ ⟨X0, X1⟩ (fun hS => ?_)
        clear hK K
        (try simp only [List.getElem_toArray]); (try simp only [List.getElem_cons_succ]); (try simp only [List.getElem_cons_zero]); (try simp only [Act.put]); (try simp only [List.setIfInBounds_toArray]); (try simp only [List.set_cons_succ]); (try simp only [List.set_cons_zero])
        refine wpAnyH_ready (rs := [3, 5]) (by kernel_rfl) (by simp) ?_
        refine AllReadyH.cons (o := _) rfl (fun K hK => ?_) (AllReadyH.cons (o := _) rfl (fun K hK => ?_) AllReadyH.nil)
        · rw [if_pos (by rfl)]
          go_simp
          go_at_call 9
          refine (toMirror_ow _ x1 _ (by exact r1.below B) (by omega)).mono ?_
          rintro e w33 ⟨u, bh0a1_0, rfl, h0a1, fh0a1_0, hb33⟩
          obtain ⟨cs_h0a1, e_h0a1, R_h0a1⟩ := h0a1.row
          subst e_h0a1
          have F_h0a1 : ∀ y ∈ bh0a1_0, w32.heap.size ≤ y := fh0a1_0
          (try have nbk_h0a1 : _ ∉ bh0a1_0 := fun hm => Nat.not_lt.2 (F_h0a1 _ hm) NB.lt)
          have dj_w0_h0a1 : Dj (bw0_0 ++ (bw0_1 ++ (bw0_2 ++ bw0_3))) bh0a1_0 := fun y hy hm => Nat.not_lt.2 (F_h0a1 y hm) (w0.lt y hy)
          have dj_xc0_h0a1 : Dj (bxc0_0 ++ (bxc0_1 ++ bxc0_2)) bh0a1_0 := fun y hy hm => Nat.not_lt.2 (F_h0a1 y hm) (xc0.lt y hy)
          have dj_xc1_h0a1 : Dj bxc1_0 bh0a1_0 := fun y hy hm => Nat.not_lt.2 (F_h0a1 y hm) (xc1.lt y hy)
          have dj_g0_h0a1 : Dj (bg0_0 ++ (bg0_1 ++ (bg0_2 ++ bg0_3))) bh0a1_0 := fun y hy hm => Nat.not_lt.2 (F_h0a1 y hm) (g0.lt y hy)
          have dj_h0a0_h0a1 : Dj (bh0a0_0 ++ (bh0a0_1 ++ bh0a0_2)) bh0a1_0 := fun y hy hm => Nat.not_lt.2 (F_h0a1 y hm) (h0a0.lt y hy)
          have nb_X0_h0a1 : w.heap.size ∉ bh0a1_0 := fun hm => Nat.not_lt.2 (F_h0a1 _ hm) X0.lt
          have nb_X1_h0a1 : (w.heap.size + 1) ∉ bh0a1_0 := fun hm => Nat.not_lt.2 (F_h0a1 _ hm) X1.lt
          have nb_Yw0_h0a1 : nbw0 ∉ bh0a1_0 := fun hm => Nat.not_lt.2 (F_h0a1 _ hm) Yw0.lt
          have nb_Z0_h0a1 : w16.heap.size ∉ bh0a1_0 := fun hm => Nat.not_lt.2 (F_h0a1 _ hm) Z0.lt
          have nb_Z1_h0a1 : w18.heap.size ∉ bh0a1_0 := fun hm => Nat.not_lt.2 (F_h0a1 _ hm) Z1.lt
          have nb_Yg0_h0a1 : w20.heap.size ∉ bh0a1_0 := fun hm => Nat.not_lt.2 (F_h0a1 _ hm) Yg0.lt
          have G_h0a1 : ∀ y ∈ bh0a1_0, w.heap.size ≤ y := fun y hy => Nat.le_trans B.size (F_h0a1 y hy)
          clear F_h0a1
          (try replace NB := NB.keep hb33)
          replace X0 := X0.keep hb33
          replace X1 := X1.keep hb33
          replace Yw0 := Yw0.keep hb33
          replace Z0 := Z0.keep hb33
          replace Z1 := Z1.keep hb33
          replace Yg0 := Yg0.keep hb33
          replace w0 := w0.keep hb33
          replace xc0 := xc0.keep hb33
          replace xc1 := xc1.keep hb33
          replace g0 := g0.keep hb33
          replace h0a0 := h0a0.keep hb33
          replace B := B.trans (hb33.mono B.size)
          clear hb33 fh0a1_0
          (try dsimp only)
          refine hK.out _ _ ⟨X0, X1⟩ (fun hS => ?_)
          clear hK K
          (try simp only [List.getElem_toArray]); (try simp only [List.getElem_cons_succ]); (try simp only [List.getElem_cons_zero]); (try simp only [Act.put]); (try simp only [List.setIfInBounds_toArray]); (try simp only [List.set_cons_succ]); (try simp only [List.set_cons_zero])
          refine wpAnyH_ready (rs := [4, 5]) (by kernel_rfl) (by simp) ?_
          refine AllReadyH.cons (o := _) rfl (fun K hK => ?_) (AllReadyH.cons (o := _) rfl (fun K hK => ?_) AllReadyH.nil)
          · rw [if_pos (by rfl)]
            go_simp
            go_at_call 10
            refine (HI.out _ _ _ (by exact h0a0.rd) (by exact h0a1.rd)).mono ?_
            rintro e w34 ⟨u, bh0_0, bh0_1, bh0_2, bh0_3, rfl, h0, fh0_0, fh0_1, fh0_2, fh0_3, hb34⟩
            obtain ⟨cs_h0, e_h0, R_h0⟩ := h0.row
            subst e_h0
            have F_h0 : ∀ y ∈ (bh0_0 ++ (bh0_1 ++ (bh0_2 ++ bh0_3))), w33.heap.size ≤ y := all_app fh0_0 (all_app fh0_1 (all_app fh0_2 fh0_3))
            (try have nbk_h0 : _ ∉ (bh0_0 ++ (bh0_1 ++ (bh0_2 ++ bh0_3))) := fun hm => Nat.not_lt.2 (F_h0 _ hm) NB.lt)
            have dj_w0_h0 : Dj (bw0_0 ++ (bw0_1 ++ (bw0_2 ++ bw0_3))) (bh0_0 ++ (bh0_1 ++ (bh0_2 ++ bh0_3))) := fun y hy hm => Nat.not_lt.2 (F_h0 y hm) (w0.lt y hy)
            have dj_xc0_h0 : Dj (bxc0_0 ++ (bxc0_1 ++ bxc0_2)) (bh0_0 ++ (bh0_1 ++ (bh0_2 ++ bh0_3))) := fun y hy hm => Nat.not_lt.2 (F_h0 y hm) (xc0.lt y hy)
            have dj_xc1_h0 : Dj bxc1_0 (bh0_0 ++ (bh0_1 ++ (bh0_2 ++ bh0_3))) := fun y hy hm => Nat.not_lt.2 (F_h0 y hm) (xc1.lt y hy)
            have dj_g0_h0 : Dj (bg0_0 ++ (bg0_1 ++ (bg0_2 ++ bg0_3))) (bh0_0 ++ (bh0_1 ++ (bh0_2 ++ bh0_3))) := fun y hy hm => Nat.not_lt.2 (F_h0 y hm) (g0.lt y hy)
            have dj_h0a0_h0 : Dj (bh0a0_0 ++ (bh0a0_1 ++ bh0a0_2)) (bh0_0 ++ (bh0_1 ++ (bh0_2 ++ bh0_3))) := fun y hy hm => Nat.not_lt.2 (F_h0 y hm) (h0a0.lt y hy)
            have dj_h0a1_h0 : Dj bh0a1_0 (bh0_0 ++ (bh0_1 ++ (bh0_2 ++ bh0_3))) := fun y hy hm => Nat.not_lt.2 (F_h0 y hm) (h0a1.lt y hy)
            have nb_X0_h0 : w.heap.size ∉ (bh0_0 ++ (bh0_1 ++ (bh0_2 ++ bh0_3))) := fun hm => Nat.not_lt.2 (F_h0 _ hm) X0.lt
            have nb_X1_h0 : (w.heap.size + 1) ∉ (bh0_0 ++ (bh0_1 ++ (bh0_2 ++ bh0_3))) := fun hm => Nat.not_lt.2 (F_h0 _ hm) X1.lt
            have nb_Yw0_h0 : nbw0 ∉ (bh0_0 ++ (bh0_1 ++ (bh0_2 ++ bh0_3))) := fun hm => Nat.not_lt.2 (F_h0 _ hm) Yw0.lt
            have nb_Z0_h0 : w16.heap.size ∉ (bh0_0 ++ (bh0_1 ++ (bh0_2 ++ bh0_3))) := fun hm => Nat.not_lt.2 (F_h0 _ hm) Z0.lt
            have nb_Z1_h0 : w18.heap.size ∉ (bh0_0 ++ (bh0_1 ++ (bh0_2 ++ bh0_3))) := fun hm => Nat.not_lt.2 (F_h0 _ hm) Z1.lt
            have nb_Yg0_h0 : w20.heap.size ∉ (bh0_0 ++ (bh0_1 ++ (bh0_2 ++ bh0_3))) := fun hm => Nat.not_lt.2 (F_h0 _ hm) Yg0.lt
            have G_h0 : ∀ y ∈ (bh0_0 ++ (bh0_1 ++ (bh0_2 ++ bh0_3))), w.heap.size ≤ y := fun y hy => Nat.le_trans B.size (F_h0 y hy)
            clear F_h0
            (try replace NB := NB.keep hb34)
            replace X0 := X0.keep hb34
            replace X1 := X1.keep hb34
            replace Yw0 := Yw0.keep hb34
            replace Z0 := Z0.keep hb34
            replace Z1 := Z1.keep hb34
            replace Yg0 := Yg0.keep hb34
            replace w0 := w0.keep hb34
            replace xc0 := xc0.keep hb34
            replace xc1 := xc1.keep hb34
            replace g0 := g0.keep hb34
            replace h0a0 := h0a0.keep hb34
            replace h0a1 := h0a1.keep hb34
            replace B := B.trans (hb34.mono B.size)
            clear hb34 fh0_0 fh0_1 fh0_2 fh0_3
            (try dsimp only)
            refine hK.out _ _ ⟨X0, X1⟩ (fun hS => ?_)
            clear hK K
            (try simp only [List.getElem_toArray]); (try simp only [List.getElem_cons_succ]); (try simp only [List.getElem_cons_zero]); (try simp only [Act.put]); (try simp only [List.setIfInBounds_toArray]); (try simp only [List.set_cons_succ]); (try simp only [List.set_cons_zero])
            refine wpAnyH_ready (rs := [5]) (by kernel_rfl) (by simp) ?_
            refine AllReadyH.cons (o := _) rfl (fun K hK => ?_) AllReadyH.nil
            rw [if_pos (by rfl)]
            go_simp
            have nbx_X0 : w.heap.size ≠ w34.heap.size := Nat.ne_of_lt X0.lt
            have nbx_X1 : (w.heap.size + 1) ≠ w34.heap.size := Nat.ne_of_lt X1.lt
            have nbx_Yw0 : nbw0 ≠ w34.heap.size := Nat.ne_of_lt Yw0.lt
            have nbx_Z0 : w16.heap.size ≠ w34.heap.size := Nat.ne_of_lt Z0.lt
            have nbx_Z1 : w18.heap.size ≠ w34.heap.size := Nat.ne_of_lt Z1.lt
            have nbx_Yg0 : w20.heap.size ≠ w34.heap.size := Nat.ne_of_lt Yg0.lt
            have nbk_w0 : w34.heap.size ∉ (bw0_0 ++ (bw0_1 ++ (bw0_2 ++ bw0_3))) := fun hm => Nat.lt_irrefl _ (w0.lt _ hm)
            have nbk_xc0 : w34.heap.size ∉ (bxc0_0 ++ (bxc0_1 ++ bxc0_2)) := fun hm => Nat.lt_irrefl _ (xc0.lt _ hm)
            have nbk_xc1 : w34.heap.size ∉ bxc1_0 := fun hm => Nat.lt_irrefl _ (xc1.lt _ hm)
            have nbk_g0 : w34.heap.size ∉ (bg0_0 ++ (bg0_1 ++ (bg0_2 ++ bg0_3))) := fun hm => Nat.lt_irrefl _ (g0.lt _ hm)
            have nbk_h0a0 : w34.heap.size ∉ (bh0a0_0 ++ (bh0a0_1 ++ bh0a0_2)) := fun hm => Nat.lt_irrefl _ (h0a0.lt _ hm)
            have nbk_h0a1 : w34.heap.size ∉ bh0a1_0 := fun hm => Nat.lt_irrefl _ (h0a1.lt _ hm)
            have nbk_h0 : w34.heap.size ∉ (bh0_0 ++ (bh0_1 ++ (bh0_2 ++ bh0_3))) := fun hm => Nat.lt_irrefl _ (h0.lt _ hm)
            replace X0 := X0.alloc (.cells #[.int .i64 0, .int .i64 0, .slice none 0 0, .slice none 0 0, .slice none 0 0, .int .i64 0, .slice none 0 0, .int .i64 0, .int .i64 0, .int .i64 0, .bool false, .bool false, .int .i64 0, .int .i64 0, .int .i64 0, .int .i64 0, .int .i64 0, .int .i64 0, .int .i64 0] 43)
            replace X1 := X1.alloc (.cells #[.int .i64 0, .int .i64 0, .slice none 0 0, .slice none 0 0, .slice none 0 0, .int .i64 0, .slice none 0 0, .int .i64 0, .int .i64 0, .int .i64 0, .bool false, .bool false, .int .i64 0, .int .i64 0, .int .i64 0, .int .i64 0, .int .i64 0, .int .i64 0, .int .i64 0] 43)
            replace Yw0 := Yw0.alloc (.cells #[.int .i64 0, .int .i64 0, .slice none 0 0, .slice none 0 0, .slice none 0 0, .int .i64 0, .slice none 0 0, .int .i64 0, .int .i64 0, .int .i64 0, .bool false, .bool false, .int .i64 0, .int .i64 0, .int .i64 0, .int .i64 0, .int .i64 0, .int .i64 0, .int .i64 0] 43)
            replace Z0 := Z0.alloc (.cells #[.int .i64 0, .int .i64 0, .slice none 0 0, .slice none 0 0, .slice none 0 0, .int .i64 0, .slice none 0 0, .int .i64 0, .int .i64 0, .int .i64 0, .bool false, .bool false, .int .i64 0, .int .i64 0, .int .i64 0, .int .i64 0, .int .i64 0, .int .i64 0, .int .i64 0] 43)
            replace Z1 := Z1.alloc (.cells #[.int .i64 0, .int .i64 0, .slice none 0 0, .slice none 0 0, .slice none 0 0, .int .i64 0, .slice none 0 0, .int .i64 0, .int .i64 0, .int .i64 0, .bool false, .bool false, .int .i64 0, .int .i64 0, .int .i64 0, .int .i64 0, .int .i64 0, .int .i64 0, .int .i64 0] 43)
            replace Yg0 := Yg0.alloc (.cells #[.int .i64 0, .int .i64 0, .slice none 0 0, .slice none 0 0, .slice none 0 0, .int .i64 0, .slice none 0 0, .int .i64 0, .int .i64 0, .int .i64 0, .bool false, .bool false, .int .i64 0, .int .i64 0, .int .i64 0, .int .i64 0, .int .i64 0, .int .i64 0, .int .i64 0] 43)
            replace w0 := w0.alloc (.cells #[.int .i64 0, .int .i64 0, .slice none 0 0, .slice none 0 0, .slice none 0 0, .int .i64 0, .slice none 0 0, .int .i64 0, .int .i64 0, .int .i64 0, .bool false, .bool false, .int .i64 0, .int .i64 0, .int .i64 0, .int .i64 0, .int .i64 0, .int .i64 0, .int .i64 0] 43)
            replace xc0 := xc0.alloc (.cells #[.int .i64 0, .int .i64 0, .slice none 0 0, .slice none 0 0, .slice none 0 0, .int .i64 0, .slice none 0 0, .int .i64 0, .int .i64 0, .int .i64 0, .bool false, .bool false, .int .i64 0, .int .i64 0, .int .i64 0, .int .i64 0, .int .i64 0, .int .i64 0, .int .i64 0] 43)
            replace xc1 := xc1.alloc (.cells #[.int .i64 0, .int .i64 0, .slice none 0 0, .slice none 0 0, .slice none 0 0, .int .i64 0, .slice none 0 0, .int .i64 0, .int .i64 0, .int .i64 0, .bool false, .bool false, .int .i64 0, .int .i64 0, .int .i64 0, .int .i64 0, .int .i64 0, .int .i64 0, .int .i64 0] 43)
            replace g0 := g0.alloc (.cells #[.int .i64 0, .int .i64 0, .slice none 0 0, .slice none 0 0, .slice none 0 0, .int .i64 0, .slice none 0 0, .int .i64 0, .int .i64 0, .int .i64 0, .bool false, .bool false, .int .i64 0, .int .i64 0, .int .i64 0, .int .i64 0, .int .i64 0, .int .i64 0, .int .i64 0] 43)
            replace h0a0 := h0a0.alloc (.cells #[.int .i64 0, .int .i64 0, .slice none 0 0, .slice none 0 0, .slice none 0 0, .int .i64 0, .slice none 0 0, .int .i64 0, .int .i64 0, .int .i64 0, .bool false, .bool false, .int .i64 0, .int .i64 0, .int .i64 0, .int .i64 0, .int .i64 0, .int .i64 0, .int .i64 0] 43)
            replace h0a1 := h0a1.alloc (.cells #[.int .i64 0, .int .i64 0, .slice none 0 0, .slice none 0 0, .slice none 0 0, .int .i64 0, .slice none 0 0, .int .i64 0, .int .i64 0, .int .i64 0, .bool false, .bool false, .int .i64 0, .int .i64 0, .int .i64 0, .int .i64 0, .int .i64 0, .int .i64 0, .int .i64 0] 43)
            replace h0 := h0.alloc (.cells #[.int .i64 0, .int .i64 0, .slice none 0 0, .slice none 0 0, .slice none 0 0, .int .i64 0, .slice none 0 0, .int .i64 0, .int .i64 0, .int .i64 0, .bool false, .bool false, .int .i64 0, .int .i64 0, .int .i64 0, .int .i64 0, .int .i64 0, .int .i64 0, .int .i64 0] 43)
            have NB := Blk.new w34 43 #[.int .i64 0, .int .i64 0, .slice none 0 0, .slice none 0 0, .slice none 0 0, .int .i64 0, .slice none 0 0, .int .i64 0, .int .i64 0, .int .i64 0, .bool false, .bool false, .int .i64 0, .int .i64 0, .int .i64 0, .int .i64 0, .int .i64 0, .int .i64 0, .int .i64 0]
            have gNB : w.heap.size ≤ w34.heap.size := B.size
            replace B := B.alloc B.size (.cells #[.int .i64 0, .int .i64 0, .slice none 0 0, .slice none 0 0, .slice none 0 0, .int .i64 0, .slice none 0 0, .int .i64 0, .int .i64 0, .int .i64 0, .bool false, .bool false, .int .i64 0, .int .i64 0, .int .i64 0, .int .i64 0, .int .i64 0, .int .i64 0, .int .i64 0] 43)
            refine hK.out _ _ ⟨X0, X1⟩ (fun hS => ?_)
            clear hK K
            (try simp only [List.getElem_toArray]); (try simp only [List.getElem_cons_succ]); (try simp only [List.getElem_cons_zero]); (try simp only [Act.put]); (try simp only [List.setIfInBounds_toArray]); (try simp only [List.set_cons_succ]); (try simp only [List.set_cons_zero])
            refine wpAnyH_ready (rs := [6]) (by kernel_rfl) (by simp) ?_
            refine AllReadyH.cons (o := _) rfl (fun K hK => ?_) AllReadyH.nil
            refine step_store_blk rfl 43 _ _ rfl w34.heap.size cs_h0 rfl rfl NB (by rw [R_h0.1]; rfl) (R_h0.hi (by kernel_rfl)) R_h0.2 ?_
            intro wE YE OE
            refine hK.out _ _ ⟨(X0.off OE (fun hm => nbx_X0 (List.mem_singleton.1 hm))), (X1.off OE (fun hm => nbx_X1 (List.mem_singleton.1 hm)))⟩ (fun hS => ?_)
            clear hK K
            (try simp only [List.getElem_toArray]); (try simp only [List.getElem_cons_succ]); (try simp only [List.getElem_cons_zero]); (try simp only [Act.put]); (try simp only [List.setIfInBounds_toArray]); (try simp only [List.set_cons_succ]); (try simp only [List.set_cons_zero])
            refine wpAnyH_done (by kernel_rfl) ?_ _
            have FIN : ∃ nz cs_h0 bh0_0 bh0_1 bh0_2 bh0_3, (Value.pointer (some ⟨w34.heap.size, 0, none⟩)) = .pointer (some ⟨nz, 0, none⟩) ∧ Blk wE w.heap.size 31 cs0 ∧ Blk wE (w.heap.size + 1) 33 cs1 ∧ Blk wE nbw0 43 cs_w0 ∧ Blk wE w16.heap.size 41 cs_xc0 ∧ Blk wE w18.heap.size 36 cs_xc1 ∧ Blk wE w20.heap.size 43 cs_g0 ∧ Below w.heap.size w wE ∧ OwMixResult wE (.agg cs_w0) r bw0_0 bw0_1 bw0_2 bw0_3 ∧ OwNet wE (.agg cs_xc0) (mkNet 1 x0) bxc0_0 bxc0_1 bxc0_2 ∧ OwMirror wE (.agg cs_xc1) (mkMirror (1 + (cntNet x0 : Nat)) x1) bxc1_0 ∧ OwMixResult wE (.agg cs_g0) (mkMixResult 1 r) bg0_0 bg0_1 bg0_2 bg0_3 ∧ OwMixResult wE (.agg cs_h0) r bh0_0 bh0_1 bh0_2 bh0_3 ∧ Rw 19 cs_h0 ∧ Blk wE nz 43 cs_h0 ∧ Dj (bw0_0 ++ (bw0_1 ++ (bw0_2 ++ bw0_3))) (bh0_0 ++ (bh0_1 ++ (bh0_2 ++ bh0_3))) ∧ Dj (bxc0_0 ++ (bxc0_1 ++ bxc0_2)) (bh0_0 ++ (bh0_1 ++ (bh0_2 ++ bh0_3))) ∧ Dj bxc1_0 (bh0_0 ++ (bh0_1 ++ (bh0_2 ++ bh0_3))) ∧ Dj (bg0_0 ++ (bg0_1 ++ (bg0_2 ++ bg0_3))) (bh0_0 ++ (bh0_1 ++ (bh0_2 ++ bh0_3))) ∧ w.heap.size ∉ (bh0_0 ++ (bh0_1 ++ (bh0_2 ++ bh0_3))) ∧ (w.heap.size + 1) ∉ (bh0_0 ++ (bh0_1 ++ (bh0_2 ++ bh0_3))) ∧ nbw0 ∉ (bh0_0 ++ (bh0_1 ++ (bh0_2 ++ bh0_3))) ∧ w16.heap.size ∉ (bh0_0 ++ (bh0_1 ++ (bh0_2 ++ bh0_3))) ∧ w18.heap.size ∉ (bh0_0 ++ (bh0_1 ++ (bh0_2 ++ bh0_3))) ∧ w20.heap.size ∉ (bh0_0 ++ (bh0_1 ++ (bh0_2 ++ bh0_3))) ∧ (∀ y ∈ (bh0_0 ++ (bh0_1 ++ (bh0_2 ++ bh0_3))), w.heap.size ≤ y) ∧ nz ∉ (bw0_0 ++ (bw0_1 ++ (bw0_2 ++ bw0_3))) ∧ nz ∉ (bxc0_0 ++ (bxc0_1 ++ bxc0_2)) ∧ nz ∉ bxc1_0 ∧ nz ∉ (bg0_0 ++ (bg0_1 ++ (bg0_2 ++ bg0_3))) ∧ nz ∉ (bh0_0 ++ (bh0_1 ++ (bh0_2 ++ bh0_3))) := ⟨w34.heap.size, cs_h0, bh0_0, bh0_1, bh0_2, bh0_3, rfl, X0.off OE (fun hm => nbx_X0 (List.mem_singleton.1 hm)), X1.off OE (fun hm => nbx_X1 (List.mem_singleton.1 hm)), Yw0.off OE (fun hm => nbx_Yw0 (List.mem_singleton.1 hm)), Z0.off OE (fun hm => nbx_Z0 (List.mem_singleton.1 hm)), Z1.off OE (fun hm => nbx_Z1 (List.mem_singleton.1 hm)), Yg0.off OE (fun hm => nbx_Yg0 (List.mem_singleton.1 hm)), B.trans (OE.toBelow B.size (fun y hy => by rw [List.mem_singleton.1 hy]; exact gNB)), w0.off OE (fun y hy hm => nbk_w0 (by have e := List.mem_singleton.1 hm; subst e; exact hy)), xc0.off OE (fun y hy hm => nbk_xc0 (by have e := List.mem_singleton.1 hm; subst e; exact hy)), xc1.off OE (fun y hy hm => nbk_xc1 (by have e := List.mem_singleton.1 hm; subst e; exact hy)), g0.off OE (fun y hy hm => nbk_g0 (by have e := List.mem_singleton.1 hm; subst e; exact hy)), h0.off OE (fun y hy hm => nbk_h0 (by have e := List.mem_singleton.1 hm; subst e; exact hy)), R_h0, YE, dj_w0_h0, dj_xc0_h0, dj_xc1_h0, dj_g0_h0, nb_X0_h0, nb_X1_h0, nb_Yw0_h0, nb_Z0_h0, nb_Z1_h0, nb_Yg0_h0, G_h0, nbk_w0, nbk_xc0, nbk_xc1, nbk_g0, nbk_h0⟩
            go_wp2
            go_meet
            case rel => exact FIN
          · rw [if_pos (by rfl)]
            go_simp
            have nbx_X0 : w.heap.size ≠ w33.heap.size := Nat.ne_of_lt X0.lt
            have nbx_X1 : (w.heap.size + 1) ≠ w33.heap.size := Nat.ne_of_lt X1.lt
            have nbx_Yw0 : nbw0 ≠ w33.heap.size := Nat.ne_of_lt Yw0.lt
            have nbx_Z0 : w16.heap.size ≠ w33.heap.size := Nat.ne_of_lt Z0.lt
            have nbx_Z1 : w18.heap.size ≠ w33.heap.size := Nat.ne_of_lt Z1.lt
            have nbx_Yg0 : w20.heap.size ≠ w33.heap.size := Nat.ne_of_lt Yg0.lt
            have nbk_w0 : w33.heap.size ∉ (bw0_0 ++ (bw0_1 ++ (bw0_2 ++ bw0_3))) := fun hm => Nat.lt_irrefl _ (w0.lt _ hm)
            have nbk_xc0 : w33.heap.size ∉ (bxc0_0 ++ (bxc0_1 ++ bxc0_2)) := fun hm => Nat.lt_irrefl _ (xc0.lt _ hm)
            have nbk_xc1 : w33.heap.size ∉ bxc1_0 := fun hm => Nat.lt_irrefl _ (xc1.lt _ hm)
            have nbk_g0 : w33.heap.size ∉ (bg0_0 ++ (bg0_1 ++ (bg0_2 ++ bg0_3))) := fun hm => Nat.lt_irrefl _ (g0.lt _ hm)
            have nbk_h0a0 : w33.heap.size ∉ (bh0a0_0 ++ (bh0a0_1 ++ bh0a0_2)) := fun hm => Nat.lt_irrefl _ (h0a0.lt _ hm)
            have nbk_h0a1 : w33.heap.size ∉ bh0a1_0 := fun hm => Nat.lt_irrefl _ (h0a1.lt _ hm)
            replace X0 := X0.alloc (.cells #[.int .i64 0, .int .i64 0, .slice none 0 0, .slice none 0 0, .slice none 0 0, .int .i64 0, .slice none 0 0, .int .i64 0, .int .i64 0, .int .i64 0, .bool false, .bool false, .int .i64 0, .int .i64 0, .int .i64 0, .int .i64 0, .int .i64 0, .int .i64 0, .int .i64 0] 43)
            replace X1 := X1.alloc (.cells #[.int .i64 0, .int .i64 0, .slice none 0 0, .slice none 0 0, .slice none 0 0, .int .i64 0, .slice none 0 0, .int .i64 0, .int .i64 0, .int .i64 0, .bool false, .bool false, .int .i64 0, .int .i64 0, .int .i64 0, .int .i64 0, .int .i64 0, .int .i64 0, .int .i64 0] 43)
            replace Yw0 := Yw0.alloc (.cells #[.int .i64 0, .int .i64 0, .slice none 0 0, .slice none 0 0, .slice none 0 0, .int .i64 0, .slice none 0 0, .int .i64 0, .int .i64 0, .int .i64 0, .bool false, .bool false, .int .i64 0, .int .i64 0, .int .i64 0, .int .i64 0, .int .i64 0, .int .i64 0, .int .i64 0] 43)
            replace Z0 := Z0.alloc (.cells #[.int .i64 0, .int .i64 0, .slice none 0 0, .slice none 0 0, .slice none 0 0, .int .i64 0, .slice none 0 0, .int .i64 0, .int .i64 0, .int .i64 0, .bool false, .bool false, .int .i64 0, .int .i64 0, .int .i64 0, .int .i64 0, .int .i64 0, .int .i64 0, .int .i64 0] 43)
            replace Z1 := Z1.alloc (.cells #[.int .i64 0, .int .i64 0, .slice none 0 0, .slice none 0 0, .slice none 0 0, .int .i64 0, .slice none 0 0, .int .i64 0, .int .i64 0, .int .i64 0, .bool false, .bool false, .int .i64 0, .int .i64 0, .int .i64 0, .int .i64 0, .int .i64 0, .int .i64 0, .int .i64 0] 43)
            replace Yg0 := Yg0.alloc (.cells #[.int .i64 0, .int .i64 0, .slice none 0 0, .slice none 0 0, .slice none 0 0, .int .i64 0, .slice none 0 0, .int .i64 0, .int .i64 0, .int .i64 0, .bool false, .bool false, .int .i64 0, .int .i64 0, .int .i64 0, .int .i64 0, .int .i64 0, .int .i64 0, .int .i64 0] 43)
            replace w0 := w0.alloc (.cells #[.int .i64 0, .int .i64 0, .slice none 0 0, .slice none 0 0, .slice none 0 0, .int .i64 0, .slice none 0 0, .int .i64 0, .int .i64 0, .int .i64 0, .bool false, .bool false, .int .i64 0, .int .i64 0, .int .i64 0, .int .i64 0, .int .i64 0, .int .i64 0, .int .i64 0] 43)
            replace xc0 := xc0.alloc (.cells #[.int .i64 0, .int .i64 0, .slice none 0 0, .slice none 0 0, .slice none 0 0, .int .i64 0, .slice none 0 0, .int .i64 0, .int .i64 0, .int .i64 0, .bool false, .bool false, .int .i64 0, .int .i64 0, .int .i64 0, .int .i64 0, .int .i64 0, .int .i64 0, .int .i64 0] 43)
            replace xc1 := xc1.alloc (.cells #[.int .i64 0, .int .i64 0, .slice none 0 0, .slice none 0 0, .slice none 0 0, .int .i64 0, .slice none 0 0, .int .i64 0, .int .i64 0, .int .i64 0, .bool false, .bool false, .int .i64 0, .int .i64 0, .int .i64 0, .int .i64 0, .int .i64 0, .int .i64 0, .int .i64 0] 43)
            replace g0 := g0.alloc (.cells #[.int .i64 0, .int .i64 0, .slice none 0 0, .slice none 0 0, .slice none 0 0, .int .i64 0, .slice none 0 0, .int .i64 0, .int .i64 0, .int .i64 0, .bool false, .bool false, .int .i64 0, .int .i64 0, .int .i64 0, .int .i64 0, .int .i64 0, .int .i64 0, .int .i64 0] 43)
            replace h0a0 := h0a0.alloc (.cells #[.int .i64 0, .int .i64 0, .slice none 0 0, .slice none 0 0, .slice none 0 0, .int .i64 0, .slice none 0 0, .int .i64 0, .int .i64 0, .int .i64 0, .bool false, .bool false, .int .i64 0, .int .i64 0, .int .i64 0, .int .i64 0, .int .i64 0, .int .i64 0, .int .i64 0] 43)
            replace h0a1 := h0a1.alloc (.cells #[.int .i64 0, .int .i64 0, .slice none 0 0, .slice none 0 0, .slice none 0 0, .int .i64 0, .slice none 0 0, .int .i64 0, .int .i64 0, .int .i64 0, .bool false, .bool false, .int .i64 0, .int .i64 0, .int .i64 0, .int .i64 0, .int .i64 0, .int .i64 0, .int .i64 0] 43)
            have NB := Blk.new w33 43 #[.int .i64 0, .int .i64 0, .slice none 0 0, .slice none 0 0, .slice none 0 0, .int .i64 0, .slice none 0 0, .int .i64 0, .int .i64 0, .int .i64 0, .bool false, .bool false, .int .i64 0, .int .i64 0, .int .i64 0, .int .i64 0, .int .i64 0, .int .i64 0, .int .i64 0]
            have gNB : w.heap.size ≤ w33.heap.size := B.size
            replace B := B.alloc B.size (.cells #[.int .i64 0, .int .i64 0, .slice none 0 0, .slice none 0 0, .slice none 0 0, .int .i64 0, .slice none 0 0, .int .i64 0, .int .i64 0, .int .i64 0, .bool false, .bool false, .int .i64 0, .int .i64 0, .int .i64 0, .int .i64 0, .int .i64 0, .int .i64 0, .int .i64 0] 43)
            refine hK.out _ _ ⟨X0, X1⟩ (fun hS => ?_)
            clear hK K
            (try simp only [List.getElem_toArray]); (try simp only [List.getElem_cons_succ]); (try simp only [List.getElem_cons_zero]); (try simp only [Act.put]); (try simp only [List.setIfInBounds_toArray]); (try simp only [List.set_cons_succ]); (try simp only [List.set_cons_zero])
            refine wpAnyH_ready (rs := [4]) (by kernel_rfl) (by simp) ?_
            refine AllReadyH.cons (o := _) rfl (fun K hK => ?_) AllReadyH.nil
            rw [if_pos (by rfl)]
            go_simp
            go_at_call 10
            refine (HI.out _ _ _ (by exact h0a0.rd) (by exact h0a1.rd)).mono ?_
            rintro e w35 ⟨u, bh0_0, bh0_1, bh0_2, bh0_3, rfl, h0, fh0_0, fh0_1, fh0_2, fh0_3, hb35⟩
            obtain ⟨cs_h0, e_h0, R_h0⟩ := h0.row
            subst e_h0
            have F_h0 : ∀ y ∈ (bh0_0 ++ (bh0_1 ++ (bh0_2 ++ bh0_3))), (w33.alloc (.cells #[.int .i64 0, .int .i64 0, .slice none 0 0, .slice none 0 0, .slice none 0 0, .int .i64 0, .slice none 0 0, .int .i64 0, .int .i64 0, .int .i64 0, .bool false, .bool false, .int .i64 0, .int .i64 0, .int .i64 0, .int .i64 0, .int .i64 0, .int .i64 0, .int .i64 0] 43)).heap.size ≤ y := all_app fh0_0 (all_app fh0_1 (all_app fh0_2 fh0_3))
            (try have nbk_h0 : _ ∉ (bh0_0 ++ (bh0_1 ++ (bh0_2 ++ bh0_3))) := fun hm => Nat.not_lt.2 (F_h0 _ hm) NB.lt)
            have dj_w0_h0 : Dj (bw0_0 ++ (bw0_1 ++ (bw0_2 ++ bw0_3))) (bh0_0 ++ (bh0_1 ++ (bh0_2 ++ bh0_3))) := fun y hy hm => Nat.not_lt.2 (F_h0 y hm) (w0.lt y hy)
            have dj_xc0_h0 : Dj (bxc0_0 ++ (bxc0_1 ++ bxc0_2)) (bh0_0 ++ (bh0_1 ++ (bh0_2 ++ bh0_3))) := fun y hy hm => Nat.not_lt.2 (F_h0 y hm) (xc0.lt y hy)
            have dj_xc1_h0 : Dj bxc1_0 (bh0_0 ++ (bh0_1 ++ (bh0_2 ++ bh0_3))) := fun y hy hm => Nat.not_lt.2 (F_h0 y hm) (xc1.lt y hy)
            have dj_g0_h0 : Dj (bg0_0 ++ (bg0_1 ++ (bg0_2 ++ bg0_3))) (bh0_0 ++ (bh0_1 ++ (bh0_2 ++ bh0_3))) := fun y hy hm => Nat.not_lt.2 (F_h0 y hm) (g0.lt y hy)
            have dj_h0a0_h0 : Dj (bh0a0_0 ++ (bh0a0_1 ++ bh0a0_2)) (bh0_0 ++ (bh0_1 ++ (bh0_2 ++ bh0_3))) := fun y hy hm => Nat.not_lt.2 (F_h0 y hm) (h0a0.lt y hy)
            have dj_h0a1_h0 : Dj bh0a1_0 (bh0_0 ++ (bh0_1 ++ (bh0_2 ++ bh0_3))) := fun y hy hm => Nat.not_lt.2 (F_h0 y hm) (h0a1.lt y hy)
            have nb_X0_h0 : w.heap.size ∉ (bh0_0 ++ (bh0_1 ++ (bh0_2 ++ bh0_3))) := fun hm => Nat.not_lt.2 (F_h0 _ hm) X0.lt
            have nb_X1_h0 : (w.heap.size + 1) ∉ (bh0_0 ++ (bh0_1 ++ (bh0_2 ++ bh0_3))) := fun hm => Nat.not_lt.2 (F_h0 _ hm) X1.lt
            have nb_Yw0_h0 : nbw0 ∉ (bh0_0 ++ (bh0_1 ++ (bh0_2 ++ bh0_3))) := fun hm => Nat.not_lt.2 (F_h0 _ hm) Yw0.lt
            have nb_Z0_h0 : w16.heap.size ∉ (bh0_0 ++ (bh0_1 ++ (bh0_2 ++ bh0_3))) := fun hm => Nat.not_lt.2 (F_h0 _ hm) Z0.lt
            have nb_Z1_h0 : w18.heap.size ∉ (bh0_0 ++ (bh0_1 ++ (bh0_2 ++ bh0_3))) := fun hm => Nat.not_lt.2 (F_h0 _ hm) Z1.lt
            have nb_Yg0_h0 : w20.heap.size ∉ (bh0_0 ++ (bh0_1 ++ (bh0_2 ++ bh0_3))) := fun hm => Nat.not_lt.2 (F_h0 _ hm) Yg0.lt
            have G_h0 : ∀ y ∈ (bh0_0 ++ (bh0_1 ++ (bh0_2 ++ bh0_3))), w.heap.size ≤ y := fun y hy => Nat.le_trans B.size (F_h0 y hy)
            clear F_h0
            (try replace NB := NB.keep hb35)
            replace X0 := X0.keep hb35
            replace X1 := X1.keep hb35
            replace Yw0 := Yw0.keep hb35
            replace Z0 := Z0.keep hb35
            replace Z1 := Z1.keep hb35
            replace Yg0 := Yg0.keep hb35
            replace w0 := w0.keep hb35
            replace xc0 := xc0.keep hb35
            replace xc1 := xc1.keep hb35
            replace g0 := g0.keep hb35
            replace h0a0 := h0a0.keep hb35
            replace h0a1 := h0a1.keep hb35
            replace B := B.trans (hb35.mono B.size)
            clear hb35 fh0_0 fh0_1 fh0_2 fh0_3
            (try dsimp only)
            refine hK.out _ _ ⟨X0, X1⟩ (fun hS => ?_)
            clear hK K
            (try simp only [List.getElem_toArray]); (try simp only [List.getElem_cons_succ]); (try simp only [List.getElem_cons_zero]); (try simp only [Act.put]); (try simp only [List.setIfInBounds_toArray]); (try simp only [List.set_cons_succ]); (try simp only [List.set_cons_zero])
            refine wpAnyH_ready (rs := [6]) (by kernel_rfl) (by simp) ?_
            refine AllReadyH.cons (o := _) rfl (fun K hK => ?_) AllReadyH.nil
            refine step_store_blk rfl 43 _ _ rfl w33.heap.size cs_h0 rfl rfl NB (by rw [R_h0.1]; rfl) (R_h0.hi (by kernel_rfl)) R_h0.2 ?_
            intro wE YE OE
            refine hK.out _ _ ⟨(X0.off OE (fun hm => nbx_X0 (List.mem_singleton.1 hm))), (X1.off OE (fun hm => nbx_X1 (List.mem_singleton.1 hm)))⟩ (fun hS => ?_)
            clear hK K
            (try simp only [List.getElem_toArray]); (try simp only [List.getElem_cons_succ]); (try simp only [List.getElem_cons_zero]); (try simp only [Act.put]); (try simp only [List.setIfInBounds_toArray]); (try simp only [List.set_cons_succ]); (try simp only [List.set_cons_zero])
            refine wpAnyH_done (by kernel_rfl) ?_ _
            have FIN : ∃ nz cs_h0 bh0_0 bh0_1 bh0_2 bh0_3, (Value.pointer (some ⟨w33.heap.size, 0, none⟩)) = .pointer (some ⟨nz, 0, none⟩) ∧ Blk wE w.heap.size 31 cs0 ∧ Blk wE (w.heap.size + 1) 33 cs1 ∧ Blk wE nbw0 43 cs_w0 ∧ Blk wE w16.heap.size 41 cs_xc0 ∧ Blk wE w18.heap.size 36 cs_xc1 ∧ Blk wE w20.heap.size 43 cs_g0 ∧ Below w.heap.size w wE ∧ OwMixResult wE (.agg cs_w0) r bw0_0 bw0_1 bw0_2 bw0_3 ∧ OwNet wE (.agg cs_xc0) (mkNet 1 x0) bxc0_0 bxc0_1 bxc0_2 ∧ OwMirror wE (.agg cs_xc1) (mkMirror (1 + (cntNet x0 : Nat)) x1) bxc1_0 ∧ OwMixResult wE (.agg cs_g0) (mkMixResult 1 r) bg0_0 bg0_1 bg0_2 bg0_3 ∧ OwMixResult wE (.agg cs_h0) r bh0_0 bh0_1 bh0_2 bh0_3 ∧ Rw 19 cs_h0 ∧ Blk wE nz 43 cs_h0 ∧ Dj (bw0_0 ++ (bw0_1 ++ (bw0_2 ++ bw0_3))) (bh0_0 ++ (bh0_1 ++ (bh0_2 ++ bh0_3))) ∧ Dj (bxc0_0 ++ (bxc0_1 ++ bxc0_2)) (bh0_0 ++ (bh0_1 ++ (bh0_2 ++ bh0_3))) ∧ Dj bxc1_0 (bh0_0 ++ (bh0_1 ++ (bh0_2 ++ bh0_3))) ∧ Dj (bg0_0 ++ (bg0_1 ++ (bg0_2 ++ bg0_3))) (bh0_0 ++ (bh0_1 ++ (bh0_2 ++ bh0_3))) ∧ w.heap.size ∉ (bh0_0 ++ (bh0_1 ++ (bh0_2 ++ bh0_3))) ∧ (w.heap.size + 1) ∉ (bh0_0 ++ (bh0_1 ++ (bh0_2 ++ bh0_3))) ∧ nbw0 ∉ (bh0_0 ++ (bh0_1 ++ (bh0_2 ++ bh0_3))) ∧ w16.heap.size ∉ (bh0_0 ++ (bh0_1 ++ (bh0_2 ++ bh0_3))) ∧ w18.heap.size ∉ (bh0_0 ++ (bh0_1 ++ (bh0_2 ++ bh0_3))) ∧ w20.heap.size ∉ (bh0_0 ++ (bh0_1 ++ (bh0_2 ++ bh0_3))) ∧ (∀ y ∈ (bh0_0 ++ (bh0_1 ++ (bh0_2 ++ bh0_3))), w.heap.size ≤ y) ∧ nz ∉ (bw0_0 ++ (bw0_1 ++ (bw0_2 ++ bw0_3))) ∧ nz ∉ (bxc0_0 ++ (bxc0_1 ++ bxc0_2)) ∧ nz ∉ bxc1_0 ∧ nz ∉ (bg0_0 ++ (bg0_1 ++ (bg0_2 ++ bg0_3))) ∧ nz ∉ (bh0_0 ++ (bh0_1 ++ (bh0_2 ++ bh0_3))) := ⟨w33.heap.size, cs_h0, bh0_0, bh0_1, bh0_2, bh0_3, rfl, X0.off OE (fun hm => nbx_X0 (List.mem_singleton.1 hm)), X1.off OE (fun hm => nbx_X1 (List.mem_singleton.1 hm)), Yw0.off OE (fun hm => nbx_Yw0 (List.mem_singleton.1 hm)), Z0.off OE (fun hm => nbx_Z0 (List.mem_singleton.1 hm)), Z1.off OE (fun hm => nbx_Z1 (List.mem_singleton.1 hm)), Yg0.off OE (fun hm => nbx_Yg0 (List.mem_singleton.1 hm)), B.trans (OE.toBelow B.size (fun y hy => by rw [List.mem_singleton.1 hy]; exact gNB)), w0.off OE (fun y hy hm => nbk_w0 (by have e := List.mem_singleton.1 hm; subst e; exact hy)), xc0.off OE (fun y hy hm => nbk_xc0 (by have e := List.mem_singleton.1 hm; subst e; exact hy)), xc1.off OE (fun y hy hm => nbk_xc1 (by have e := List.mem_singleton.1 hm; subst e; exact hy)), g0.off OE (fun y hy hm => nbk_g0 (by have e := List.mem_singleton.1 hm; subst e; exact hy)), h0.off OE (fun y hy hm => nbk_h0 (by have e := List.mem_singleton.1 hm; subst e; exact hy)), R_h0, YE, dj_w0_h0, dj_xc0_h0, dj_xc1_h0, dj_g0_h0, nb_X0_h0, nb_X1_h0, nb_Yw0_h0, nb_Z0_h0, nb_Z1_h0, nb_Yg0_h0, G_h0, nbk_w0, nbk_xc0, nbk_xc1, nbk_g0, nbk_h0⟩
            go_wp2
            go_meet
            case rel => exact FIN
        · rw [if_pos (by rfl)]
          go_simp
          have nbx_X0 : w.heap.size ≠ w32.heap.size := Nat.ne_of_lt X0.lt
          have nbx_X1 : (w.heap.size + 1) ≠ w32.heap.size := Nat.ne_of_lt X1.lt
          have nbx_Yw0 : nbw0 ≠ w32.heap.size := Nat.ne_of_lt Yw0.lt
          have nbx_Z0 : w16.heap.size ≠ w32.heap.size := Nat.ne_of_lt Z0.lt
          have nbx_Z1 : w18.heap.size ≠ w32.heap.size := Nat.ne_of_lt Z1.lt
          have nbx_Yg0 : w20.heap.size ≠ w32.heap.size := Nat.ne_of_lt Yg0.lt
          have nbk_w0 : w32.heap.size ∉ (bw0_0 ++ (bw0_1 ++ (bw0_2 ++ bw0_3))) := fun hm => Nat.lt_irrefl _ (w0.lt _ hm)
          have nbk_xc0 : w32.heap.size ∉ (bxc0_0 ++ (bxc0_1 ++ bxc0_2)) := fun hm => Nat.lt_irrefl _ (xc0.lt _ hm)
          have nbk_xc1 : w32.heap.size ∉ bxc1_0 := fun hm => Nat.lt_irrefl _ (xc1.lt _ hm)
          have nbk_g0 : w32.heap.size ∉ (bg0_0 ++ (bg0_1 ++ (bg0_2 ++ bg0_3))) := fun hm => Nat.lt_irrefl _ (g0.lt _ hm)
          have nbk_h0a0 : w32.heap.size ∉ (bh0a0_0 ++ (bh0a0_1 ++ bh0a0_2)) := fun hm => Nat.lt_irrefl _ (h0a0.lt _ hm)
          replace X0 := X0.alloc (.cells #[.int .i64 0, .int .i64 0, .slice none 0 0, .slice none 0 0, .slice none 0 0, .int .i64 0, .slice none 0 0, .int .i64 0, .int .i64 0, .int .i64 0, .bool false, .bool false, .int .i64 0, .int .i64 0, .int .i64 0, .int .i64 0, .int .i64 0, .int .i64 0, .int .i64 0] 43)
          replace X1 := X1.alloc (.cells #[.int .i64 0, .int .i64 0, .slice none 0 0, .slice none 0 0, .slice none 0 0, .int .i64 0, .slice none 0 0, .int .i64 0, .int .i64 0, .int .i64 0, .bool false, .bool false, .int .i64 0, .int .i64 0, .int .i64 0, .int .i64 0, .int .i64 0, .int .i64 0, .int .i64 0] 43)
          replace Yw0 := Yw0.alloc (.cells #[.int .i64 0, .int .i64 0, .slice none 0 0, .slice none 0 0, .slice none 0 0, .int .i64 0, .slice none 0 0, .int .i64 0, .int .i64 0, .int .i64 0, .bool false, .bool false, .int .i64 0, .int .i64 0, .int .i64 0, .int .i64 0, .int .i64 0, .int .i64 0, .int .i64 0] 43)
          replace Z0 := Z0.alloc (.cells #[.int .i64 0, .int .i64 0, .slice none 0 0, .slice none 0 0, .slice none 0 0, .int .i64 0, .slice none 0 0, .int .i64 0, .int .i64 0, .int .i64 0, .bool false, .bool false, .int .i64 0, .int .i64 0, .int .i64 0, .int .i64 0, .int .i64 0, .int .i64 0, .int .i64 0] 43)
          replace Z1 := Z1.alloc (.cells #[.int .i64 0, .int .i64 0, .slice none 0 0, .slice none 0 0, .slice none 0 0, .int .i64 0, .slice none 0 0, .int .i64 0, .int .i64 0, .int .i64 0, .bool false, .bool false, .int .i64 0, .int .i64 0, .int .i64 0, .int .i64 0, .int .i64 0, .int .i64 0, .int .i64 0] 43)
          replace Yg0 := Yg0.alloc (.cells #[.int .i64 0, .int .i64 0, .slice none 0 0, .slice none 0 0, .slice none 0 0, .int .i64 0, .slice none 0 0, .int .i64 0, .int .i64 0, .int .i64 0, .bool false, .bool false, .int .i64 0, .int .i64 0, .int .i64 0, .int .i64 0, .int .i64 0, .int .i64 0, .int .i64 0] 43)
          replace w0 := w0.alloc (.cells #[.int .i64 0, .int .i64 0, .slice none 0 0, .slice none 0 0, .slice none 0 0, .int .i64 0, .slice none 0 0, .int .i64 0, .int .i64 0, .int .i64 0, .bool false, .bool false, .int .i64 0, .int .i64 0, .int .i64 0, .int .i64 0, .int .i64 0, .int .i64 0, .int .i64 0] 43)
          replace xc0 := xc0.alloc (.cells #[.int .i64 0, .int .i64 0, .slice none 0 0, .slice none 0 0, .slice none 0 0, .int .i64 0, .slice none 0 0, .int .i64 0, .int .i64 0, .int .i64 0, .bool false, .bool false, .int .i64 0, .int .i64 0, .int .i64 0, .int .i64 0, .int .i64 0, .int .i64 0, .int .i64 0] 43)
          replace xc1 := xc1.alloc (.cells #[.int .i64 0, .int .i64 0, .slice none 0 0, .slice none 0 0, .slice none 0 0, .int .i64 0, .slice none 0 0, .int .i64 0, .int .i64 0, .int .i64 0, .bool false, .bool false, .int .i64 0, .int .i64 0, .int .i64 0, .int .i64 0, .int .i64 0, .int .i64 0, .int .i64 0] 43)
          replace g0 := g0.alloc (.cells #[.int .i64 0, .int .i64 0, .slice none 0 0, .slice none 0 0, .slice none 0 0, .int .i64 0, .slice none 0 0, .int .i64 0, .int .i64 0, .int .i64 0, .bool false, .bool false, .int .i64 0, .int .i64 0, .int .i64 0, .int .i64 0, .int .i64 0, .int .i64 0, .int .i64 0] 43)
          replace h0a0 := h0a0.alloc (.cells #[.int .i64 0, .int .i64 0, .slice none 0 0, .slice none 0 0, .slice none 0 0, .int .i64 0, .slice none 0 0, .int .i64 0, .int .i64 0, .int .i64 0, .bool false, .bool false, .int .i64 0, .int .i64 0, .int .i64 0, .int .i64 0, .int .i64 0, .int .i64 0, .int .i64 0] 43)
          have NB := Blk.new w32 43 #[.int .i64 0, .int .i64 0, .slice none 0 0, .slice none 0 0, .slice none 0 0, .int .i64 0, .slice none 0 0, .int .i64 0, .int .i64 0, .int .i64 0, .bool false, .bool false, .int .i64 0, .int .i64 0, .int .i64 0, .int .i64 0, .int .i64 0, .int .i64 0, .int .i64 0]
          have gNB : w.heap.size ≤ w32.heap.size := B.size
          replace B := B.alloc B.size (.cells #[.int .i64 0, .int .i64 0, .slice none 0 0, .slice none 0 0, .slice none 0 0, .int .i64 0, .slice none 0 0, .int .i64 0, .int .i64 0, .int .i64 0, .bool false, .bool false, .int .i64 0, .int .i64 0, .int .i64 0, .int .i64 0, .int .i64 0, .int .i64 0, .int .i64 0] 43)
          refine hK.out _ _ ⟨X0, X1⟩ (fun hS => ?_)
          clear hK K
          (try simp only [List.getElem_toArray]); (try simp only [List.getElem_cons_succ]); (try simp only [List.getElem_cons_zero]); (try simp only [Act.put]); (try simp only [List.setIfInBounds_toArray]); (try simp only [List.set_cons_succ]); (try simp only [List.set_cons_zero])
          refine wpAnyH_ready (rs := [3]) (by kernel_rfl) (by simp) ?_
          refine AllReadyH.cons (o := _) rfl (fun K hK => ?_) AllReadyH.nil
          rw [if_pos (by rfl)]
          go_simp
          go_at_call 9
          refine (toMirror_ow _ x1 _ (by exact r1.below B) (by omega)).mono ?_
          rintro e w36 ⟨u, bh0a1_0, rfl, h0a1, fh0a1_0, hb36⟩
          obtain ⟨cs_h0a1, e_h0a1, R_h0a1⟩ := h0a1.row
          subst e_h0a1
          have F_h0a1 : ∀ y ∈ bh0a1_0, (w32.alloc (.cells #[.int .i64 0, .int .i64 0, .slice none 0 0, .slice none 0 0, .slice none 0 0, .int .i64 0, .slice none 0 0, .int .i64 0, .int .i64 0, .int .i64 0, .bool false, .bool false, .int .i64 0, .int .i64 0, .int .i64 0, .int .i64 0, .int .i64 0, .int .i64 0, .int .i64 0] 43)).heap.size ≤ y := fh0a1_0
          (try have nbk_h0a1 : _ ∉ bh0a1_0 := fun hm => Nat.not_lt.2 (F_h0a1 _ hm) NB.lt)
          have dj_w0_h0a1 : Dj (bw0_0 ++ (bw0_1 ++ (bw0_2 ++ bw0_3))) bh0a1_0 := fun y hy hm => Nat.not_lt.2 (F_h0a1 y hm) (w0.lt y hy)
          have dj_xc0_h0a1 : Dj (bxc0_0 ++ (bxc0_1 ++ bxc0_2)) bh0a1_0 := fun y hy hm => Nat.not_lt.2 (F_h0a1 y hm) (xc0.lt y hy)
          have dj_xc1_h0a1 : Dj bxc1_0 bh0a1_0 := fun y hy hm => Nat.not_lt.2 (F_h0a1 y hm) (xc1.lt y hy)
          have dj_g0_h0a1 : Dj (bg0_0 ++ (bg0_1 ++ (bg0_2 ++ bg0_3))) bh0a1_0 := fun y hy hm => Nat.not_lt.2 (F_h0a1 y hm) (g0.lt y hy)
          have dj_h0a0_h0a1 : Dj (bh0a0_0 ++ (bh0a0_1 ++ bh0a0_2)) bh0a1_0 := fun y hy hm => Nat.not_lt.2 (F_h0a1 y hm) (h0a0.lt y hy)
          have nb_X0_h0a1 : w.heap.size ∉ bh0a1_0 := fun hm => Nat.not_lt.2 (F_h0a1 _ hm) X0.lt
          have nb_X1_h0a1 : (w.heap.size + 1) ∉ bh0a1_0 := fun hm => Nat.not_lt.2 (F_h0a1 _ hm) X1.lt
          have nb_Yw0_h0a1 : nbw0 ∉ bh0a1_0 := fun hm => Nat.not_lt.2 (F_h0a1 _ hm) Yw0.lt
          have nb_Z0_h0a1 : w16.heap.size ∉ bh0a1_0 := fun hm => Nat.not_lt.2 (F_h0a1 _ hm) Z0.lt
          have nb_Z1_h0a1 : w18.heap.size ∉ bh0a1_0 := fun hm => Nat.not_lt.2 (F_h0a1 _ hm) Z1.lt
          have nb_Yg0_h0a1 : w20.heap.size ∉ bh0a1_0 := fun hm => Nat.not_lt.2 (F_h0a1 _ hm) Yg0.lt
          have G_h0a1 : ∀ y ∈ bh0a1_0, w.heap.size ≤ y := fun y hy => Nat.le_trans B.size (F_h0a1 y hy)
          clear F_h0a1
          (try replace NB := NB.keep hb36)
          replace X0 := X0.keep hb36
          replace X1 := X1.keep hb36
          replace Yw0 := Yw0.keep hb36
          replace Z0 := Z0.keep hb36
          replace Z1 := Z1.keep hb36
          replace Yg0 := Yg0.keep hb36
          replace w0 := w0.keep hb36
          replace xc0 := xc0.keep hb36
          replace xc1 := xc1.keep hb36
          replace g0 := g0.keep hb36
          replace h0a0 := h0a0.keep hb36
          replace B := B.trans (hb36.mono B.size)
          clear hb36 fh0a1_0
          (try dsimp only)
          refine hK.out _ _ ⟨X0, X1⟩ (fun hS => ?_)
          clear hK K
          (try simp only [List.getElem_toArray]); (try simp only [List.getElem_cons_succ]); (try simp only [List.getElem_cons_zero]); (try simp only [Act.put]); (try simp only [List.setIfInBounds_toArray]); (try simp only [List.set_cons_succ]); (try simp only [List.set_cons_zero])
          refine wpAnyH_ready (rs := [4]) (by kernel_rfl) (by simp) ?_
          refine AllReadyH.cons (o := _) rfl (fun K hK => ?_) AllReadyH.nil
          rw [if_pos (by rfl)]
          go_simp
          go_at_call 10
          refine (HI.out _ _ _ (by exact h0a0.rd) (by exact h0a1.rd)).mono ?_
          rintro e w37 ⟨u, bh0_0, bh0_1, bh0_2, bh0_3, rfl, h0, fh0_0, fh0_1, fh0_2, fh0_3, hb37⟩
          obtain ⟨cs_h0, e_h0, R_h0⟩ := h0.row
          subst e_h0
          have F_h0 : ∀ y ∈ (bh0_0 ++ (bh0_1 ++ (bh0_2 ++ bh0_3))), w36.heap.size ≤ y := all_app fh0_0 (all_app fh0_1 (all_app fh0_2 fh0_3))
          (try have nbk_h0 : _ ∉ (bh0_0 ++ (bh0_1 ++ (bh0_2 ++ bh0_3))) := fun hm => Nat.not_lt.2 (F_h0 _ hm) NB.lt)
          have dj_w0_h0 : Dj (bw0_0 ++ (bw0_1 ++ (bw0_2 ++ bw0_3))) (bh0_0 ++ (bh0_1 ++ (bh0_2 ++ bh0_3))) := fun y hy hm => Nat.not_lt.2 (F_h0 y hm) (w0.lt y hy)
          have dj_xc0_h0 : Dj (bxc0_0 ++ (bxc0_1 ++ bxc0_2)) (bh0_0 ++ (bh0_1 ++ (bh0_2 ++ bh0_3))) := fun y hy hm => Nat.not_lt.2 (F_h0 y hm) (xc0.lt y hy)
          have dj_xc1_h0 : Dj bxc1_0 (bh0_0 ++ (bh0_1 ++ (bh0_2 ++ bh0_3))) := fun y hy hm => Nat.not_lt.2 (F_h0 y hm) (xc1.lt y hy)
          have dj_g0_h0 : Dj (bg0_0 ++ (bg0_1 ++ (bg0_2 ++ bg0_3))) (bh0_0 ++ (bh0_1 ++ (bh0_2 ++ bh0_3))) := fun y hy hm => Nat.not_lt.2 (F_h0 y hm) (g0.lt y hy)
          have dj_h0a0_h0 : Dj (bh0a0_0 ++ (bh0a0_1 ++ bh0a0_2)) (bh0_0 ++ (bh0_1 ++ (bh0_2 ++ bh0_3))) := fun y hy hm => Nat.not_lt.2 (F_h0 y hm) (h0a0.lt y hy)
          have dj_h0a1_h0 : Dj bh0a1_0 (bh0_0 ++ (bh0_1 ++ (bh0_2 ++ bh0_3))) := fun y hy hm => Nat.not_lt.2 (F_h0 y hm) (h0a1.lt y hy)
          have nb_X0_h0 : w.heap.size ∉ (bh0_0 ++ (bh0_1 ++ (bh0_2 ++ bh0_3))) := fun hm => Nat.not_lt.2 (F_h0 _ hm) X0.lt
          have nb_X1_h0 : (w.heap.size + 1) ∉ (bh0_0 ++ (bh0_1 ++ (bh0_2 ++ bh0_3))) := fun hm => Nat.not_lt.2 (F_h0 _ hm) X1.lt
          have nb_Yw0_h0 : nbw0 ∉ (bh0_0 ++ (bh0_1 ++ (bh0_2 ++ bh0_3))) := fun hm => Nat.not_lt.2 (F_h0 _ hm) Yw0.lt
          have nb_Z0_h0 : w16.heap.size ∉ (bh0_0 ++ (bh0_1 ++ (bh0_2 ++ bh0_3))) := fun hm => Nat.not_lt.2 (F_h0 _ hm) Z0.lt
          have nb_Z1_h0 : w18.heap.size ∉ (bh0_0 ++ (bh0_1 ++ (bh0_2 ++ bh0_3))) := fun hm => Nat.not_lt.2 (F_h0 _ hm) Z1.lt
          have nb_Yg0_h0 : w20.heap.size ∉ (bh0_0 ++ (bh0_1 ++ (bh0_2 ++ bh0_3))) := fun hm => Nat.not_lt.2 (F_h0 _ hm) Yg0.lt
          have G_h0 : ∀ y ∈ (bh0_0 ++ (bh0_1 ++ (bh0_2 ++ bh0_3))), w.heap.size ≤ y := fun y hy => Nat.le_trans B.size (F_h0 y hy)
          clear F_h0
          (try replace NB := NB.keep hb37)
          replace X0 := X0.keep hb37
          replace X1 := X1.keep hb37
          replace Yw0 := Yw0.keep hb37
          replace Z0 := Z0.keep hb37
          replace Z1 := Z1.keep hb37
          replace Yg0 := Yg0.keep hb37
          replace w0 := w0.keep hb37
          replace xc0 := xc0.keep hb37
          replace xc1 := xc1.keep hb37
          replace g0 := g0.keep hb37
          replace h0a0 := h0a0.keep hb37
          replace h0a1 := h0a1.keep hb37
          replace B := B.trans (hb37.mono B.size)
          clear hb37 fh0_0 fh0_1 fh0_2 fh0_3
          (try dsimp only)
          refine hK.out _ _ ⟨X0, X1⟩ (fun hS => ?_)
          clear hK K
          (try simp only [List.getElem_toArray]); (try simp only [List.getElem_cons_succ]); (try simp only [List.getElem_cons_zero]); (try simp only [Act.put]); (try simp only [List.setIfInBounds_toArray]); (try simp only [List.set_cons_succ]); (try simp only [List.set_cons_zero])
          refine wpAnyH_ready (rs := [6]) (by kernel_rfl) (by simp) ?_
          refine AllReadyH.cons (o := _) rfl (fun K hK => ?_) AllReadyH.nil
          refine step_store_blk rfl 43 _ _ rfl w32.heap.size cs_h0 rfl rfl NB (by rw [R_h0.1]; rfl) (R_h0.hi (by kernel_rfl)) R_h0.2 ?_
          intro wE YE OE
          refine hK.out _ _ ⟨(X0.off OE (fun hm => nbx_X0 (List.mem_singleton.1 hm))), (X1.off OE (fun hm => nbx_X1 (List.mem_singleton.1 hm)))⟩ (fun hS => ?_)
          clear hK K
          (try simp only [List.getElem_toArray]); (try simp only [List.getElem_cons_succ]); (try simp only [List.getElem_cons_zero]); (try simp only [Act.put]); (try simp only [List.setIfInBounds_toArray]); (try simp only [List.set_cons_succ]); (try simp only [List.set_cons_zero])
          refine wpAnyH_done (by kernel_rfl) ?_ _
          have FIN : ∃ nz cs_h0 bh0_0 bh0_1 bh0_2 bh0_3, (Value.pointer (some ⟨w32.heap.size, 0, none⟩)) = .pointer (some ⟨nz, 0, none⟩) ∧ Blk wE w.heap.size 31 cs0 ∧ Blk wE (w.heap.size + 1) 33 cs1 ∧ Blk wE nbw0 43 cs_w0 ∧ Blk wE w16.heap.size 41 cs_xc0 ∧ Blk wE w18.heap.size 36 cs_xc1 ∧ Blk wE w20.heap.size 43 cs_g0 ∧ Below w.heap.size w wE ∧ OwMixResult wE (.agg cs_w0) r bw0_0 bw0_1 bw0_2 bw0_3 ∧ OwNet wE (.agg cs_xc0) (mkNet 1 x0) bxc0_0 bxc0_1 bxc0_2 ∧ OwMirror wE (.agg cs_xc1) (mkMirror (1 + (cntNet x0 : Nat)) x1) bxc1_0 ∧ OwMixResult wE (.agg cs_g0) (mkMixResult 1 r) bg0_0 bg0_1 bg0_2 bg0_3 ∧ OwMixResult wE (.agg cs_h0) r bh0_0 bh0_1 bh0_2 bh0_3 ∧ Rw 19 cs_h0 ∧ Blk wE nz 43 cs_h0 ∧ Dj (bw0_0 ++ (bw0_1 ++ (bw0_2 ++ bw0_3))) (bh0_0 ++ (bh0_1 ++ (bh0_2 ++ bh0_3))) ∧ Dj (bxc0_0 ++ (bxc0_1 ++ bxc0_2)) (bh0_0 ++ (bh0_1 ++ (bh0_2 ++ bh0_3))) ∧ Dj bxc1_0 (bh0_0 ++ (bh0_1 ++ (bh0_2 ++ bh0_3))) ∧ Dj (bg0_0 ++ (bg0_1 ++ (bg0_2 ++ bg0_3))) (bh0_0 ++ (bh0_1 ++ (bh0_2 ++ bh0_3))) ∧ w.heap.size ∉ (bh0_0 ++ (bh0_1 ++ (bh0_2 ++ bh0_3))) ∧ (w.heap.size + 1) ∉ (bh0_0 ++ (bh0_1 ++ (bh0_2 ++ bh0_3))) ∧ nbw0 ∉ (bh0_0 ++ (bh0_1 ++ (bh0_2 ++ bh0_3))) ∧ w16.heap.size ∉ (bh0_0 ++ (bh0_1 ++ (bh0_2 ++ bh0_3))) ∧ w18.heap.size ∉ (bh0_0 ++ (bh0_1 ++ (bh0_2 ++ bh0_3))) ∧ w20.heap.size ∉ (bh0_0 ++ (bh0_1 ++ (bh0_2 ++ bh0_3))) ∧ (∀ y ∈ (bh0_0 ++ (bh0_1 ++ (bh0_2 ++ bh0_3))), w.heap.size ≤ y) ∧ nz ∉ (bw0_0 ++ (bw0_1 ++ (bw0_2 ++ bw0_3))) ∧ nz ∉ (bxc0_0 ++ (bxc0_1 ++ bxc0_2)) ∧ nz ∉ bxc1_0 ∧ nz ∉ (bg0_0 ++ (bg0_1 ++ (bg0_2 ++ bg0_3))) ∧ nz ∉ (bh0_0 ++ (bh0_1 ++ (bh0_2 ++ bh0_3))) := ⟨w32.heap.size, cs_h0, bh0_0, bh0_1, bh0_2, bh0_3, rfl, X0.off OE (fun hm => nbx_X0 (List.mem_singleton.1 hm)), X1.off OE (fun hm => nbx_X1 (List.mem_singleton.1 hm)), Yw0.off OE (fun hm => nbx_Yw0 (List.mem_singleton.1 hm)), Z0.off OE (fun hm => nbx_Z0 (List.mem_singleton.1 hm)), Z1.off OE (fun hm => nbx_Z1 (List.mem_singleton.1 hm)), Yg0.off OE (fun hm => nbx_Yg0 (List.mem_singleton.1 hm)), B.trans (OE.toBelow B.size (fun y hy => by rw [List.mem_singleton.1 hy]; exact gNB)), w0.off OE (fun y hy hm => nbk_w0 (by have e := List.mem_singleton.1 hm; subst e; exact hy)), xc0.off OE (fun y hy hm => nbk_xc0 (by have e := List.mem_singleton.1 hm; subst e; exact hy)), xc1.off OE (fun y hy hm => nbk_xc1 (by have e := List.mem_singleton.1 hm; subst e; exact hy)), g0.off OE (fun y hy hm => nbk_g0 (by have e := List.mem_singleton.1 hm; subst e; exact hy)), h0.off OE (fun y hy hm => nbk_h0 (by have e := List.mem_singleton.1 hm; subst e; exact hy)), R_h0, YE, dj_w0_h0, dj_xc0_h0, dj_xc1_h0, dj_g0_h0, nb_X0_h0, nb_X1_h0, nb_Yw0_h0, nb_Z0_h0, nb_Z1_h0, nb_Yg0_h0, G_h0, nbk_w0, nbk_xc0, nbk_xc1, nbk_g0, nbk_h0⟩
          go_wp2
          go_meet
          case rel => exact FIN
      · rw [if_pos (by rfl)]
        go_simp
        have nbx_X0 : w.heap.size ≠ w31.heap.size := Nat.ne_of_lt X0.lt
        have nbx_X1 : (w.heap.size + 1) ≠ w31.heap.size := Nat.ne_of_lt X1.lt
        have nbx_Yw0 : nbw0 ≠ w31.heap.size := Nat.ne_of_lt Yw0.lt
        have nbx_Z0 : w16.heap.size ≠ w31.heap.size := Nat.ne_of_lt Z0.lt
        have nbx_Z1 : w18.heap.size ≠ w31.heap.size := Nat.ne_of_lt Z1.lt
        have nbx_Yg0 : w20.heap.size ≠ w31.heap.size := Nat.ne_of_lt Yg0.lt
        have nbk_w0 : w31.heap.size ∉ (bw0_0 ++ (bw0_1 ++ (bw0_2 ++ bw0_3))) := fun hm => Nat.lt_irrefl _ (w0.lt _ hm)
        have nbk_xc0 : w31.heap.size ∉ (bxc0_0 ++ (bxc0_1 ++ bxc0_2)) := fun hm => Nat.lt_irrefl _ (xc0.lt _ hm)
        have nbk_xc1 : w31.heap.size ∉ bxc1_0 := fun hm => Nat.lt_irrefl _ (xc1.lt _ hm)
        have nbk_g0 : w31.heap.size ∉ (bg0_0 ++ (bg0_1 ++ (bg0_2 ++ bg0_3))) := fun hm => Nat.lt_irrefl _ (g0.lt _ hm)
        replace X0 := X0.alloc (.cells #[.int .i64 0, .int .i64 0, .slice none 0 0, .slice none 0 0, .slice none 0 0, .int .i64 0, .slice none 0 0, .int .i64 0, .int .i64 0, .int .i64 0, .bool false, .bool false, .int .i64 0, .int .i64 0, .int .i64 0, .int .i64 0, .int .i64 0, .int .i64 0, .int .i64 0] 43)
        replace X1 := X1.alloc (.cells #[.int .i64 0, .int .i64 0, .slice none 0 0, .slice none 0 0, .slice none 0 0, .int .i64 0, .slice none 0 0, .int .i64 0, .int .i64 0, .int .i64 0, .bool false, .bool false, .int .i64 0, .int .i64 0, .int .i64 0, .int .i64 0, .int .i64 0, .int .i64 0, .int .i64 0] 43)
        replace Yw0 := Yw0.alloc (.cells #[.int .i64 0, .int .i64 0, .slice none 0 0, .slice none 0 0, .slice none 0 0, .int .i64 0, .slice none 0 0, .int .i64 0, .int .i64 0, .int .i64 0, .bool false, .bool false, .int .i64 0, .int .i64 0, .int .i64 0, .int .i64 0, .int .i64 0, .int .i64 0, .int .i64 0] 43)
        replace Z0 := Z0.alloc (.cells #[.int .i64 0, .int .i64 0, .slice none 0 0, .slice none 0 0, .slice none 0 0, .int .i64 0, .slice none 0 0, .int .i64 0, .int .i64 0, .int .i64 0, .bool false, .bool false, .int .i64 0, .int .i64 0, .int .i64 0, .int .i64 0, .int .i64 0, .int .i64 0, .int .i64 0] 43)
        replace Z1 := Z1.alloc (.cells #[.int .i64 0, .int .i64 0, .slice none 0 0, .slice none 0 0, .slice none 0 0, .int .i64 0, .slice none 0 0, .int .i64 0, .int .i64 0, .int .i64 0, .bool false, .bool false, .int .i64 0, .int .i64 0, .int .i64 0, .int .i64 0, .int .i64 0, .int .i64 0, .int .i64 0] 43)
        replace Yg0 := Yg0.alloc (.cells #[.int .i64 0, .int .i64 0, .slice none 0 0, .slice none 0 0, .slice none 0 0, .int .i64 0, .slice none 0 0, .int .i64 0, .int .i64 0, .int .i64 0, .bool false, .bool false, .int .i64 0, .int .i64 0, .int .i64 0, .int .i64 0, .int .i64 0, .int .i64 0, .int .i64 0] 43)
        replace w0 := w0.alloc (.cells #[.int .i64 0, .int .i64 0, .slice none 0 0, .slice none 0 0, .slice none 0 0, .int .i64 0, .slice none 0 0, .int .i64 0, .int .i64 0, .int .i64 0, .bool false, .bool false, .int .i64 0, .int .i64 0, .int .i64 0, .int .i64 0, .int .i64 0, .int .i64 0, .int .i64 0] 43)
        replace xc0 := xc0.alloc (.cells #[.int .i64 0, .int .i64 0, .slice none 0 0, .slice none 0 0, .slice none 0 0, .int .i64 0, .slice none 0 0, .int .i64 0, .int .i64 0, .int .i64 0, .bool false, .bool false, .int .i64 0, .int .i64 0, .int .i64 0, .int .i64 0, .int .i64 0, .int .i64 0, .int .i64 0] 43)
        replace xc1 := xc1.alloc (.cells #[.int .i64 0, .int .i64 0, .slice none 0 0, .slice none 0 0, .slice none 0 0, .int .i64 0, .slice none 0 0, .int .i64 0, .int .i64 0, .int .i64 0, .bool false, .bool false, .int .i64 0, .int .i64 0, .int .i64 0, .int .i64 0, .int .i64 0, .int .i64 0, .int .i64 0] 43)
        replace g0 := g0.alloc (.cells #[.int .i64 0, .int .i64 0, .slice none 0 0, .slice none 0 0, .slice none 0 0, .int .i64 0, .slice none 0 0, .int .i64 0, .int .i64 0, .int .i64 0, .bool false, .bool false, .int .i64 0, .int .i64 0, .int .i64 0, .int .i64 0, .int .i64 0, .int .i64 0, .int .i64 0] 43)
        have NB := Blk.new w31.drew 43 #[.int .i64 0, .int .i64 0, .slice none 0 0, .slice none 0 0, .slice none 0 0, .int .i64 0, .slice none 0 0, .int .i64 0, .int .i64 0, .int .i64 0, .bool false, .bool false, .int .i64 0, .int .i64 0, .int .i64 0, .int .i64 0, .int .i64 0, .int .i64 0, .int .i64 0]
        have gNB : w.heap.size ≤ w31.heap.size := B.size
        replace B := B.alloc B.size (.cells #[.int .i64 0, .int .i64 0, .slice none 0 0, .slice none 0 0, .slice none 0 0, .int .i64 0, .slice none 0 0, .int .i64 0, .int .i64 0, .int .i64 0, .bool false, .bool false, .int .i64 0, .int .i64 0, .int .i64 0, .int .i64 0, .int .i64 0, .int .i64 0, .int .i64 0] 43)
        refine hK.out _ _ ⟨X0, X1⟩ (fun hS => ?_)
        clear hK K
        (try simp only [List.getElem_toArray]); (try simp only [List.getElem_cons_succ]); (try simp only [List.getElem_cons_zero]); (try simp only [Act.put]); (try simp only [List.setIfInBounds_toArray]); (try simp only [List.set_cons_succ]); (try simp only [List.set_cons_zero])
        refine wpAnyH_ready (rs := [1]) (by kernel_rfl) (by simp) ?_
        refine AllReadyH.cons (o := _) rfl (fun K hK => ?_) AllReadyH.nil
        rw [if_pos (by rfl)]
        go_simp
        go_at_call 8
        refine (toNet_ow _ x0 _ (by exact r0.below B) (by omega)).mono ?_
        rintro e w38 ⟨u, bh0a0_0, bh0a0_1, bh0a0_2, rfl, h0a0, fh0a0_0, fh0a0_1, fh0a0_2, hb38⟩
        obtain ⟨cs_h0a0, e_h0a0, R_h0a0⟩ := h0a0.row
        subst e_h0a0
        have F_h0a0 : ∀ y ∈ (bh0a0_0 ++ (bh0a0_1 ++ bh0a0_2)), (w31.drew.alloc (.cells #[.int .i64 0, .int .i64 0, .slice none 0 0, .slice none 0 0, .slice none 0 0, .int .i64 0, .slice none 0 0, .int .i64 0, .int .i64 0, .int .i64 0, .bool false, .bool false, .int .i64 0, .int .i64 0, .int .i64 0, .int .i64 0, .int .i64 0, .int .i64 0, .int .i64 0] 43)).heap.size ≤ y := all_app fh0a0_0 (all_app fh0a0_1 fh0a0_2)
        (try have nbk_h0a0 : _ ∉ (bh0a0_0 ++ (bh0a0_1 ++ bh0a0_2)) := fun hm => Nat.not_lt.2 (F_h0a0 _ hm) NB.lt)
        have dj_w0_h0a0 : Dj (bw0_0 ++ (bw0_1 ++ (bw0_2 ++ bw0_3))) (bh0a0_0 ++ (bh0a0_1 ++ bh0a0_2)) := fun y hy hm => Nat.not_lt.2 (F_h0a0 y hm) (w0.lt y hy)
        have dj_xc0_h0a0 : Dj (bxc0_0 ++ (bxc0_1 ++ bxc0_2)) (bh0a0_0 ++ (bh0a0_1 ++ bh0a0_2)) := fun y hy hm => Nat.not_lt.2 (F_h0a0 y hm) (xc0.lt y hy)
        have dj_xc1_h0a0 : Dj bxc1_0 (bh0a0_0 ++ (bh0a0_1 ++ bh0a0_2)) := fun y hy hm => Nat.not_lt.2 (F_h0a0 y hm) (xc1.lt y hy)
        have dj_g0_h0a0 : Dj (bg0_0 ++ (bg0_1 ++ (bg0_2 ++ bg0_3))) (bh0a0_0 ++ (bh0a0_1 ++ bh0a0_2)) := fun y hy hm => Nat.not_lt.2 (F_h0a0 y hm) (g0.lt y hy)
        have nb_X0_h0a0 : w.heap.size ∉ (bh0a0_0 ++ (bh0a0_1 ++ bh0a0_2)) := fun hm => Nat.not_lt.2 (F_h0a0 _ hm) X0.lt
        have nb_X1_h0a0 : (w.heap.size + 1) ∉ (bh0a0_0 ++ (bh0a0_1 ++ bh0a0_2)) := fun hm => Nat.not_lt.2 (F_h0a0 _ hm) X1.lt
        have nb_Yw0_h0a0 : nbw0 ∉ (bh0a0_0 ++ (bh0a0_1 ++ bh0a0_2)) := fun hm => Nat.not_lt.2 (F_h0a0 _ hm) Yw0.lt
        have nb_Z0_h0a0 : w16.heap.size ∉ (bh0a0_0 ++ (bh0a0_1 ++ bh0a0_2)) := fun hm => Nat.not_lt.2 (F_h0a0 _ hm) Z0.lt
        have nb_Z1_h0a0 : w18.heap.size ∉ (bh0a0_0 ++ (bh0a0_1 ++ bh0a0_2)) := fun hm => Nat.not_lt.2 (F_h0a0 _ hm) Z1.lt
        have nb_Yg0_h0a0 : w20.heap.size ∉ (bh0a0_0 ++ (bh0a0_1 ++ bh0a0_2)) := fun hm => Nat.not_lt.2 (F_h0a0 _ hm) Yg0.lt
        have G_h0a0 : ∀ y ∈ (bh0a0_0 ++ (bh0a0_1 ++ bh0a0_2)), w.heap.size ≤ y := fun y hy => Nat.le_trans B.size (F_h0a0 y hy)
        clear F_h0a0
        (try replace NB := NB.keep hb38)
        replace X0 := X0.keep hb38
        replace X1 := X1.keep hb38
        replace Yw0 := Yw0.keep hb38
        replace Z0 := Z0.keep hb38
        replace Z1 := Z1.keep hb38
        replace Yg0 := Yg0.keep hb38
        replace w0 := w0.keep hb38
        replace xc0 := xc0.keep hb38
        replace xc1 := xc1.keep hb38
        replace g0 := g0.keep hb38
        replace B := B.trans (hb38.mono B.size)
        clear hb38 fh0a0_0 fh0a0_1 fh0a0_2
        (try dsimp only)
        refine hK.out _ _ ⟨X0, X1⟩ (fun hS => ?_)
        clear hK K
        (try simp only [List.getElem_toArray]); (try simp only [List.getElem_cons_succ]); (try simp only [List.getElem_cons_zero]); (try simp only [Act.put]); (try simp only [List.setIfInBounds_toArray]); (try simp only [List.set_cons_succ]); (try simp only [List.set_cons_zero])
        refine wpAnyH_ready (rs := [3]) (by kernel_rfl) (by simp) ?_
        refine AllReadyH.cons (o := _) rfl (fun K hK => ?_) AllReadyH.nil
        rw [if_pos (by rfl)]
        go_simp
        go_at_call 9
        refine (toMirror_ow _ x1 _ (by exact r1.below B) (by omega)).mono ?_
        rintro e w39 ⟨u, bh0a1_0, rfl, h0a1, fh0a1_0, hb39⟩
        obtain ⟨cs_h0a1, e_h0a1, R_h0a1⟩ := h0a1.row
        subst e_h0a1
        have F_h0a1 : ∀ y ∈ bh0a1_0, w38.heap.size ≤ y := fh0a1_0
        (try have nbk_h0a1 : _ ∉ bh0a1_0 := fun hm => Nat.not_lt.2 (F_h0a1 _ hm) NB.lt)
        have dj_w0_h0a1 : Dj (bw0_0 ++ (bw0_1 ++ (bw0_2 ++ bw0_3))) bh0a1_0 := fun y hy hm => Nat.not_lt.2 (F_h0a1 y hm) (w0.lt y hy)
        have dj_xc0_h0a1 : Dj (bxc0_0 ++ (bxc0_1 ++ bxc0_2)) bh0a1_0 := fun y hy hm => Nat.not_lt.2 (F_h0a1 y hm) (xc0.lt y hy)
        have dj_xc1_h0a1 : Dj bxc1_0 bh0a1_0 := fun y hy hm => Nat.not_lt.2 (F_h0a1 y hm) (xc1.lt y hy)
        have dj_g0_h0a1 : Dj (bg0_0 ++ (bg0_1 ++ (bg0_2 ++ bg0_3))) bh0a1_0 := fun y hy hm => Nat.not_lt.2 (F_h0a1 y hm) (g0.lt y hy)
        have dj_h0a0_h0a1 : Dj (bh0a0_0 ++ (bh0a0_1 ++ bh0a0_2)) bh0a1_0 := fun y hy hm => Nat.not_lt.2 (F_h0a1 y hm) (h0a0.lt y hy)
        have nb_X0_h0a1 : w.heap.size ∉ bh0a1_0 := fun hm => Nat.not_lt.2 (F_h0a1 _ hm) X0.lt
        have nb_X1_h0a1 : (w.heap.size + 1) ∉ bh0a1_0 := fun hm => Nat.not_lt.2 (F_h0a1 _ hm) X1.lt
        have nb_Yw0_h0a1 : nbw0 ∉ bh0a1_0 := fun hm => Nat.not_lt.2 (F_h0a1 _ hm) Yw0.lt
        have nb_Z0_h0a1 : w16.heap.size ∉ bh0a1_0 := fun hm => Nat.not_lt.2 (F_h0a1 _ hm) Z0.lt
        have nb_Z1_h0a1 : w18.heap.size ∉ bh0a1_0 := fun hm => Nat.not_lt.2 (F_h0a1 _ hm) Z1.lt
        have nb_Yg0_h0a1 : w20.heap.size ∉ bh0a1_0 := fun hm => Nat.not_lt.2 (F_h0a1 _ hm) Yg0.lt
        have G_h0a1 : ∀ y ∈ bh0a1_0, w.heap.size ≤ y := fun y hy => Nat.le_trans B.size (F_h0a1 y hy)
        clear F_h0a1
        (try replace NB := NB.keep hb39)
        replace X0 := X0.keep hb39
        replace X1 := X1.keep hb39
        replace Yw0 := Yw0.keep hb39
        replace Z0 := Z0.keep hb39
        replace Z1 := Z1.keep hb39
        replace Yg0 := Yg0.keep hb39
        replace w0 := w0.keep hb39
        replace xc0 := xc0.keep hb39
        replace xc1 := xc1.keep hb39
        replace g0 := g0.keep hb39
        replace h0a0 := h0a0.keep hb39
        replace B := B.trans (hb39.mono B.size)
        clear hb39 fh0a1_0
        (try dsimp only)
        refine hK.out _ _ ⟨X0, X1⟩ (fun hS => ?_)
        clear hK K
        (try simp only [List.getElem_toArray]); (try simp only [List.getElem_cons_succ]); (try simp only [List.getElem_cons_zero]); (try simp only [Act.put]); (try simp only [List.setIfInBounds_toArray]); (try simp only [List.set_cons_succ]); (try simp only [List.set_cons_zero])
        refine wpAnyH_ready (rs := [4]) (by kernel_rfl) (by simp) ?_
        refine AllReadyH.cons (o := _) rfl (fun K hK => ?_) AllReadyH.nil
        rw [if_pos (by rfl)]
        go_simp
        go_at_call 10
        refine (HI.out _ _ _ (by exact h0a0.rd) (by exact h0a1.rd)).mono ?_
        rintro e w40 ⟨u, bh0_0, bh0_1, bh0_2, bh0_3, rfl, h0, fh0_0, fh0_1, fh0_2, fh0_3, hb40⟩
        obtain ⟨cs_h0, e_h0, R_h0⟩ := h0.row
        subst e_h0
        have F_h0 : ∀ y ∈ (bh0_0 ++ (bh0_1 ++ (bh0_2 ++ bh0_3))), w39.heap.size ≤ y := all_app fh0_0 (all_app fh0_1 (all_app fh0_2 fh0_3))
        (try have nbk_h0 : _ ∉ (bh0_0 ++ (bh0_1 ++ (bh0_2 ++ bh0_3))) := fun hm => Nat.not_lt.2 (F_h0 _ hm) NB.lt)
        have dj_w0_h0 : Dj (bw0_0 ++ (bw0_1 ++ (bw0_2 ++ bw0_3))) (bh0_0 ++ (bh0_1 ++ (bh0_2 ++ bh0_3))) := fun y hy hm => Nat.not_lt.2 (F_h0 y hm) (w0.lt y hy)
        have dj_xc0_h0 : Dj (bxc0_0 ++ (bxc0_1 ++ bxc0_2)) (bh0_0 ++ (bh0_1 ++ (bh0_2 ++ bh0_3))) := fun y hy hm => Nat.not_lt.2 (F_h0 y hm) (xc0.lt y hy)
        have dj_xc1_h0 : Dj bxc1_0 (bh0_0 ++ (bh0_1 ++ (bh0_2 ++ bh0_3))) := fun y hy hm => Nat.not_lt.2 (F_h0 y hm) (xc1.lt y hy)
        have dj_g0_h0 : Dj (bg0_0 ++ (bg0_1 ++ (bg0_2 ++ bg0_3))) (bh0_0 ++ (bh0_1 ++ (bh0_2 ++ bh0_3))) := fun y hy hm => Nat.not_lt.2 (F_h0 y hm) (g0.lt y hy)
        have dj_h0a0_h0 : Dj (bh0a0_0 ++ (bh0a0_1 ++ bh0a0_2)) (bh0_0 ++ (bh0_1 ++ (bh0_2 ++ bh0_3))) := fun y hy hm => Nat.not_lt.2 (F_h0 y hm) (h0a0.lt y hy)
        have dj_h0a1_h0 : Dj bh0a1_0 (bh0_0 ++ (bh0_1 ++ (bh0_2 ++ bh0_3))) := fun y hy hm => Nat.not_lt.2 (F_h0 y hm) (h0a1.lt y hy)
        have nb_X0_h0 : w.heap.size ∉ (bh0_0 ++ (bh0_1 ++ (bh0_2 ++ bh0_3))) := fun hm => Nat.not_lt.2 (F_h0 _ hm) X0.lt
        have nb_X1_h0 : (w.heap.size + 1) ∉ (bh0_0 ++ (bh0_1 ++ (bh0_2 ++ bh0_3))) := fun hm => Nat.not_lt.2 (F_h0 _ hm) X1.lt
        have nb_Yw0_h0 : nbw0 ∉ (bh0_0 ++ (bh0_1 ++ (bh0_2 ++ bh0_3))) := fun hm => Nat.not_lt.2 (F_h0 _ hm) Yw0.lt
        have nb_Z0_h0 : w16.heap.size ∉ (bh0_0 ++ (bh0_1 ++ (bh0_2 ++ bh0_3))) := fun hm => Nat.not_lt.2 (F_h0 _ hm) Z0.lt
        have nb_Z1_h0 : w18.heap.size ∉ (bh0_0 ++ (bh0_1 ++ (bh0_2 ++ bh0_3))) := fun hm => Nat.not_lt.2 (F_h0 _ hm) Z1.lt
        have nb_Yg0_h0 : w20.heap.size ∉ (bh0_0 ++ (bh0_1 ++ (bh0_2 ++ bh0_3))) := fun hm => Nat.not_lt.2 (F_h0 _ hm) Yg0.lt
        have G_h0 : ∀ y ∈ (bh0_0 ++ (bh0_1 ++ (bh0_2 ++ bh0_3))), w.heap.size ≤ y := fun y hy => Nat.le_trans B.size (F_h0 y hy)
        clear F_h0
        (try replace NB := NB.keep hb40)
        replace X0 := X0.keep hb40
        replace X1 := X1.keep hb40
        replace Yw0 := Yw0.keep hb40
        replace Z0 := Z0.keep hb40
        replace Z1 := Z1.keep hb40
        replace Yg0 := Yg0.keep hb40
        replace w0 := w0.keep hb40
        replace xc0 := xc0.keep hb40
        replace xc1 := xc1.keep hb40
        replace g0 := g0.keep hb40
        replace h0a0 := h0a0.keep hb40
        replace h0a1 := h0a1.keep hb40
        replace B := B.trans (hb40.mono B.size)
        clear hb40 fh0_0 fh0_1 fh0_2 fh0_3
        (try dsimp only)
        refine hK.out _ _ ⟨X0, X1⟩ (fun hS => ?_)
        clear hK K
        (try simp only [List.getElem_toArray]); (try simp only [List.getElem_cons_succ]); (try simp only [List.getElem_cons_zero]); (try simp only [Act.put]); (try simp only [List.setIfInBounds_toArray]); (try simp only [List.set_cons_succ]); (try simp only [List.set_cons_zero])
        refine wpAnyH_ready (rs := [6]) (by kernel_rfl) (by simp) ?_
        refine AllReadyH.cons (o := _) rfl (fun K hK => ?_) AllReadyH.nil
        refine step_store_blk rfl 43 _ _ rfl w31.heap.size cs_h0 rfl rfl NB (by rw [R_h0.1]; rfl) (R_h0.hi (by kernel_rfl)) R_h0.2 ?_
        intro wE YE OE
        refine hK.out _ _ ⟨(X0.off OE (fun hm => nbx_X0 (List.mem_singleton.1 hm))), (X1.off OE (fun hm => nbx_X1 (List.mem_singleton.1 hm)))⟩ (fun hS => ?_)
        clear hK K
        (try simp only [List.getElem_toArray]); (try simp only [List.getElem_cons_succ]); (try simp only [List.getElem_cons_zero]); (try simp only [Act.put]); (try simp only [List.setIfInBounds_toArray]); (try simp only [List.set_cons_succ]); (try simp only [List.set_cons_zero])
        refine wpAnyH_done (by kernel_rfl) ?_ _
        have FIN : ∃ nz cs_h0 bh0_0 bh0_1 bh0_2 bh0_3, (Value.pointer (some ⟨w31.heap.size, 0, none⟩)) = .pointer (some ⟨nz, 0, none⟩) ∧ Blk wE w.heap.size 31 cs0 ∧ Blk wE (w.heap.size + 1) 33 cs1 ∧ Blk wE nbw0 43 cs_w0 ∧ Blk wE w16.heap.size 41 cs_xc0 ∧ Blk wE w18.heap.size 36 cs_xc1 ∧ Blk wE w20.heap.size 43 cs_g0 ∧ Below w.heap.size w wE ∧ OwMixResult wE (.agg cs_w0) r bw0_0 bw0_1 bw0_2 bw0_3 ∧ OwNet wE (.agg cs_xc0) (mkNet 1 x0) bxc0_0 bxc0_1 bxc0_2 ∧ OwMirror wE (.agg cs_xc1) (mkMirror (1 + (cntNet x0 : Nat)) x1) bxc1_0 ∧ OwMixResult wE (.agg cs_g0) (mkMixResult 1 r) bg0_0 bg0_1 bg0_2 bg0_3 ∧ OwMixResult wE (.agg cs_h0) r bh0_0 bh0_1 bh0_2 bh0_3 ∧ Rw 19 cs_h0 ∧ Blk wE nz 43 cs_h0 ∧ Dj (bw0_0 ++ (bw0_1 ++ (bw0_2 ++ bw0_3))) (bh0_0 ++ (bh0_1 ++ (bh0_2 ++ bh0_3))) ∧ Dj (bxc0_0 ++ (bxc0_1 ++ bxc0_2)) (bh0_0 ++ (bh0_1 ++ (bh0_2 ++ bh0_3))) ∧ Dj bxc1_0 (bh0_0 ++ (bh0_1 ++ (bh0_2 ++ bh0_3))) ∧ Dj (bg0_0 ++ (bg0_1 ++ (bg0_2 ++ bg0_3))) (bh0_0 ++ (bh0_1 ++ (bh0_2 ++ bh0_3))) ∧ w.heap.size ∉ (bh0_0 ++ (bh0_1 ++ (bh0_2 ++ bh0_3))) ∧ (w.heap.size + 1) ∉ (bh0_0 ++ (bh0_1 ++ (bh0_2 ++ bh0_3))) ∧ nbw0 ∉ (bh0_0 ++ (bh0_1 ++ (bh0_2 ++ bh0_3))) ∧ w16.heap.size ∉ (bh0_0 ++ (bh0_1 ++ (bh0_2 ++ bh0_3))) ∧ w18.heap.size ∉ (bh0_0 ++ (bh0_1 ++ (bh0_2 ++ bh0_3))) ∧ w20.heap.size ∉ (bh0_0 ++ (bh0_1 ++ (bh0_2 ++ bh0_3))) ∧ (∀ y ∈ (bh0_0 ++ (bh0_1 ++ (bh0_2 ++ bh0_3))), w.heap.size ≤ y) ∧ nz ∉ (bw0_0 ++ (bw0_1 ++ (bw0_2 ++ bw0_3))) ∧ nz ∉ (bxc0_0 ++ (bxc0_1 ++ bxc0_2)) ∧ nz ∉ bxc1_0 ∧ nz ∉ (bg0_0 ++ (bg0_1 ++ (bg0_2 ++ bg0_3))) ∧ nz ∉ (bh0_0 ++ (bh0_1 ++ (bh0_2 ++ bh0_3))) := ⟨w31.heap.size, cs_h0, bh0_0, bh0_1, bh0_2, bh0_3, rfl, X0.off OE (fun hm => nbx_X0 (List.mem_singleton.1 hm)), X1.off OE (fun hm => nbx_X1 (List.mem_singleton.1 hm)), Yw0.off OE (fun hm => nbx_Yw0 (List.mem_singleton.1 hm)), Z0.off OE (fun hm => nbx_Z0 (List.mem_singleton.1 hm)), Z1.off OE (fun hm => nbx_Z1 (List.mem_singleton.1 hm)), Yg0.off OE (fun hm => nbx_Yg0 (List.mem_singleton.1 hm)), B.trans (OE.toBelow B.size (fun y hy => by rw [List.mem_singleton.1 hy]; exact gNB)), w0.off OE (fun y hy hm => nbk_w0 (by have e := List.mem_singleton.1 hm; subst e; exact hy)), xc0.off OE (fun y hy hm => nbk_xc0 (by have e := List.mem_singleton.1 hm; subst e; exact hy)), xc1.off OE (fun y hy hm => nbk_xc1 (by have e := List.mem_singleton.1 hm; subst e; exact hy)), g0.off OE (fun y hy hm => nbk_g0 (by have e := List.mem_singleton.1 hm; subst e; exact hy)), h0.off OE (fun y hy hm => nbk_h0 (by have e := List.mem_singleton.1 hm; subst e; exact hy)), R_h0, YE, dj_w0_h0, dj_xc0_h0, dj_xc1_h0, dj_g0_h0, nb_X0_h0, nb_X1_h0, nb_Yw0_h0, nb_Z0_h0, nb_Z1_h0, nb_Yg0_h0, G_h0, nbk_w0, nbk_xc0, nbk_xc1, nbk_g0, nbk_h0⟩
        go_wp2
        go_meet
        case rel => exact FIN
    case rest =>
      clear X0 X1 Yw0 Z0 Z1 Yg0 B w0 xc0 xc1 g0
      obtain ⟨nbh0, cs_h0, bh0_0, bh0_1, bh0_2, bh0_3, rfl, X0, X1, Yw0, Z0, Z1, Yg0, B, w0, xc0, xc1, g0, h0, R_h0, Yh0, dj_w0_h0, dj_xc0_h0, dj_xc1_h0, dj_g0_h0, nb_X0_h0, nb_X1_h0, nb_Yw0_h0, nb_Z0_h0, nb_Z1_h0, nb_Yg0_h0, G_h0, nb_Yh0_w0, nb_Yh0_xc0, nb_Yh0_xc1, nb_Yh0_g0, nb_Yh0_h0⟩ := hcut
      obtain ⟨wc41, ewc⟩ : ∃ x : World, x = wc := ⟨_, rfl⟩
      subst ewc
      go_wp2_with (first | (refine wpList_load_blkg (by rfl) 31 _ rfl w.heap.size rfl X0 Tryz.underlying31 rfl (RC0.hi (by kernel_rfl)) ?_) | (refine wpList_load_blkg (by rfl) 33 _ rfl (w.heap.size + 1) rfl X1 Tryz.underlying33 rfl (RC1.hi (by kernel_rfl)) ?_) | (refine wpList_load_blkg (by rfl) 43 _ rfl nbw0 rfl Yw0 Tryz.underlying43 rfl (R_w0.hi (by kernel_rfl)) ?_) | (refine wpList_load_blkg (by rfl) 41 _ rfl w16.heap.size rfl Z0 Tryz.underlying41 rfl (R_xc0.hi (by kernel_rfl)) ?_) | (refine wpList_load_blkg (by rfl) 36 _ rfl w18.heap.size rfl Z1 Tryz.underlying36 rfl (R_xc1.hi (by kernel_rfl)) ?_) | (refine wpList_load_blkg (by rfl) 43 _ rfl w20.heap.size rfl Yg0 Tryz.underlying43 rfl (R_g0.hi (by kernel_rfl)) ?_) | (refine wpList_load_blkg (by rfl) 43 _ rfl nbh0 rfl Yh0 Tryz.underlying43 rfl (R_h0.hi (by kernel_rfl)) ?_))
      refine (eqMixResult_rd _ _ r _ (by exact h0.rd) (by exact w0.rd)).mono ?_
      rintro e w42 ⟨rfl, hb42⟩
      replace X0 := X0.keep hb42
      replace X1 := X1.keep hb42
      replace Yw0 := Yw0.keep hb42
      replace Z0 := Z0.keep hb42
      replace Z1 := Z1.keep hb42
      replace Yg0 := Yg0.keep hb42
      replace Yh0 := Yh0.keep hb42
      replace w0 := w0.keep hb42
      replace xc0 := xc0.keep hb42
      replace xc1 := xc1.keep hb42
      replace g0 := g0.keep hb42
      replace h0 := h0.keep hb42
      replace B := B.trans (hb42.mono B.size)
      (try replace NB := NB.keep hb42)
      clear hb42
      go_wp2_with (first | (refine wpList_load_blkg (by rfl) 31 _ rfl w.heap.size rfl X0 Tryz.underlying31 rfl (RC0.hi (by kernel_rfl)) ?_) | (refine wpList_load_blkg (by rfl) 33 _ rfl (w.heap.size + 1) rfl X1 Tryz.underlying33 rfl (RC1.hi (by kernel_rfl)) ?_) | (refine wpList_load_blkg (by rfl) 43 _ rfl nbw0 rfl Yw0 Tryz.underlying43 rfl (R_w0.hi (by kernel_rfl)) ?_) | (refine wpList_load_blkg (by rfl) 41 _ rfl w16.heap.size rfl Z0 Tryz.underlying41 rfl (R_xc0.hi (by kernel_rfl)) ?_) | (refine wpList_load_blkg (by rfl) 36 _ rfl w18.heap.size rfl Z1 Tryz.underlying36 rfl (R_xc1.hi (by kernel_rfl)) ?_) | (refine wpList_load_blkg (by rfl) 43 _ rfl w20.heap.size rfl Yg0 Tryz.underlying43 rfl (R_g0.hi (by kernel_rfl)) ?_) | (refine wpList_load_blkg (by rfl) 43 _ rfl nbh0 rfl Yh0 Tryz.underlying43 rfl (R_h0.hi (by kernel_rfl)) ?_))
      refine (heldMixResult_rd _ r _ _ (by exact g0.rd) (by omega) (by omega)).mono ?_
      rintro e w43 ⟨rfl, hb43⟩
      replace X0 := X0.keep hb43
      replace X1 := X1.keep hb43
      replace Yw0 := Yw0.keep hb43
      replace Z0 := Z0.keep hb43
      replace Z1 := Z1.keep hb43
      replace Yg0 := Yg0.keep hb43
      replace Yh0 := Yh0.keep hb43
      replace w0 := w0.keep hb43
      replace xc0 := xc0.keep hb43
      replace xc1 := xc1.keep hb43
      replace g0 := g0.keep hb43
      replace h0 := h0.keep hb43
      replace B := B.trans (hb43.mono B.size)
      (try replace NB := NB.keep hb43)
      clear hb43
      go_wp2
      go_ret
      exact ⟨rfl, B⟩
/-! the row's step -/
set_option maxRecDepth 100000 in
theorem lifted (os : Os) (started : os.Started) (H : Type) (enc : TypeId × Value → H) :
    ReturnsInHanded {} Tryz.checked os 3 .any (Rows.fnExactReluMirrorSpec.pre6 enc Tryz.prog Tryz.f3 Rows.fnExactReluMirrorRow.domain false) (Rows.fnExactReluMirrorSpec.post enc Tryz.prog Tryz.f3 false true false false) := by
  refine returnsInHanded_of_change (C := Tryz.checked) own started (by kernel_rfl) Tryz.func3
    (ChangeSpec.witness6 (enc := enc) (C := Tryz.checked) false ⟨#[], #[.agg #[.slice none 0 0, .slice none 0 0, .int .i64 0, .slice none 0 0, .int .i64 0, .int .i64 0, .int .i64 0, .bool false, .bool false, .int .i64 0, .int .i64 0, .int .i64 0, .int .i64 0, .int .i64 0, .int .i64 0, .int .i64 0], .agg #[.int .i64 0, .slice none 0 0]], []⟩ 8 (by kernel_rfl) (by kernel_rfl) (by kernel_rfl) (by kernel_rfl)) ?_
  intro W base args ds gs before hval0 hW hcnd _
  have hval : ∀ (j : Nat) t v, Tryz.f3.params[j]? = some t → args[j]? = some v → Value.okWide Tryz.prog W .any base t v := hval0
  have hW' := hW
  obtain ⟨p, q, hA0, hV, rfl, hfz, hnd⟩ := hW
  have hA : DataW.TrodAll enc Tryz.prog W 0 (fun _ => true) true Tryz.f3.params.toList args.toList ds p := hA0
  rw [Tryz.params3] at hA hval
  obtain ⟨v0, vs0, d0, ds0, p0, q0, hargs, rfl, rfl, h0, r0⟩ := trodAll_cons hA
  obtain ⟨v1, vs1, d1, ds1, p1, q1, rfl, rfl, rfl, h1, r1⟩ := trodAll_cons r0
  obtain ⟨rfl, rfl, rfl⟩ := trodAll_nil r1
  obtain rfl : args = #[v0, v1] := by cases args; simp_all
  obtain ⟨rfl, rfl⟩ := trodVars_none hV
  have k0 := h0
  have lt0 : ∀ x ∈ p0, x.block < W.heap.size := by obtain ⟨m, hm⟩ := k0; exact DataW.trod_lt m _ _ _ hm
  obtain ⟨cs0, rfl, _⟩ := okWide_struct Tryz.underlying31 (hval 0 31 v0 rfl rfl)
  obtain ⟨x0, w0⟩ : ∃ y, RdNet W (.agg cs0) y := by
    obtain ⟨fuel, hf⟩ := h0
    obtain ⟨y, q⟩ := open_Net hf
    exact ⟨y, by simpa [Value.cells] using q⟩
  have k1 := h1
  have lt1 : ∀ x ∈ p1, x.block < W.heap.size := by obtain ⟨m, hm⟩ := k1; exact DataW.trod_lt m _ _ _ hm
  obtain ⟨cs1, rfl, _⟩ := okWide_struct Tryz.underlying33 (hval 1 33 v1 rfl rfl)
  obtain ⟨x1, w1⟩ : ∃ y, RdMirror W (.agg cs1) y := by
    obtain ⟨fuel, hf⟩ := h1
    obtain ⟨y, q⟩ := open_Mirror hf
    exact ⟨y, by simpa [Value.cells] using q⟩
  clear hA0 hval0
  refine (walk _ x0 _ x1 W w0 w1).mono fun e W' ⟨he, bel⟩ => ?_
  subst he
  exact ⟨_, rfl, _, _, _, [], _, [], hW', trodAll_mk1 (shut_bool Tryz.underlying4 _), (trodAll_cons_mk (Below.trod laidOut (by kernel_rfl) (of_decide_eq_true (by kernel_rfl)) k0 bel lt0) (trodAll_cons_mk (Below.trod laidOut (by kernel_rfl) (of_decide_eq_true (by kernel_rfl)) k1 bel lt1) trodAll_mk0)), rfl, bel.frame _, fun h => by cases h⟩

theorem over : Rows.fnExactReluMirrorRow.holds Tryz.pinned (OpenSpec.ofChange Rows.fnExactReluMirrorSpec) :=
  OpenClaim.holds_of_wide 3 Tryz.f3 rfl rfl rfl rfl rfl rfl rfl ⟨rfl, rfl, rfl, rfl, rfl⟩ rfl rfl rfl rfl rfl (by kernel_rfl) Tryz.func3 (by kernel_rfl)
    (of_decide_eq_true (by kernel_rfl)) (by unfold Func.isWrapper; first | (rw [if_pos (by decide +kernel)]; kernel_rfl) | (rw [if_neg (by decide +kernel)]; exact ⟨rfl, rfl⟩))
    (fun os started H enc _ => lifted os started H enc)

end Go.Proofs.YtepobckhfodngaoGreat.fnExactReluMirror
namespace Go.Proofs.YtepobckhfodngaoGreat
theorem fnExactReluMirror_holds : Rows.FnExactReluMirrorSaid := fnExactReluMirror.over
#print axioms fnExactReluMirror_holds
end Go.Proofs.YtepobckhfodngaoGreat
