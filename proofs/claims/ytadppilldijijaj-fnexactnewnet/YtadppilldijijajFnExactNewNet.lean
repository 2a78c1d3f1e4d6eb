/-
  FnExactNewNet answers true at every tape and every cheat: the program's NewNet answers as its model does, writes into no argument, and each answer owns its memory.
-/
import Derived.Test.YtadppilldijijajOpen
import Derived.Test.YtadppilldijijajJnX
import Derived.Test.YtadppilldijijajWhole
import Derived.Test.YtadppilldijijajRow
import Derived.Test.YtadppilldijijajOpen
import Derived.Test.YtadppilldijijajOpen
import Derived.Deep.RegionHeld3
import Derived.Deep.CutRange
import Derived.Deep.Cut
import Derived.Deep.RegionWith
import Derived.ShutString
import Derived.ChangeOld
import Derived.Below
namespace Go.Proofs.Ytadppilldijijaj.fnExactNewNet
open Go.ChangeShapes Go.WideShapes Go.ChangeAt Go.RowKit
open Go.ChangeMaps (open_string shut_string)
set_option linter.unusedVariables false

theorem own : ownKnob Try.prog.godebug = none := by kernel_rfl
theorem laidOut : laidOutB Try.prog = true := by kernel_rfl

set_option maxHeartbeats 8000000 in
set_option maxRecDepth 100000 in
theorem walk (v0 : Value) (x0 : List (List Int)) (v1 : Value) (x1 : MCheat) (w : World) (r0 : RdTape w (v0) x0) (r1 : RdCheat w (v1) x1) :
    Calls Try.prog 7 #[v0, v1] w fun e w' => e = .returned (.bool true) ∧ Below w.heap.size w w' := by
  obtain ⟨cs0, hv, RC0⟩ := r0.row
  subst hv
  have hv := r1
  unfold RdCheat at hv
  subst hv
  by_cases s0 : (1048576 : Int) < (totTape x0 : Nat)
  · skip
    go_enter Try.func7, Try.ntmps7
    have X0 : Blk ((w.alloc (.cells cs0 41)).alloc (.cells #[.int .i64 x1.xWho, .int .i64 x1.xAt, .int .i64 x1.xBy, .bool x1.xCry] 44)) w.heap.size 41 cs0 := by simpa using (Blk.new w 41 cs0).alloc (.cells #[.int .i64 x1.xWho, .int .i64 x1.xAt, .int .i64 x1.xBy, .bool x1.xCry] 44)
    have X1 : Blk ((w.alloc (.cells cs0 41)).alloc (.cells #[.int .i64 x1.xWho, .int .i64 x1.xAt, .int .i64 x1.xBy, .bool x1.xCry] 44)) (w.heap.size + 1) 44 #[.int .i64 x1.xWho, .int .i64 x1.xAt, .int .i64 x1.xBy, .bool x1.xCry] := by simpa using (Blk.new (w.alloc (.cells cs0 41)) 44 #[.int .i64 x1.xWho, .int .i64 x1.xAt, .int .i64 x1.xBy, .bool x1.xCry])
    go_wp2_with (first | (refine wpList_load_blkg (by rfl) 41 _ rfl w.heap.size rfl X0 Try.underlying41 rfl (RC0.hi (by kernel_rfl)) ?_) | (refine wpList_load_blkg (by rfl) 44 _ rfl (w.heap.size + 1) rfl X1 Try.underlying44 rfl (by kernel_rfl) ?_))
    refine Calls.at (F := fun V => Blk V w.heap.size 41 cs0 ∧ Blk V (w.heap.size + 1) 44 #[.int .i64 x1.xWho, .int .i64 x1.xAt, .int .i64 x1.xBy, .bool x1.xCry] ∧ Below w.heap.size w V) ⟨X0, X1, (by repeat (first | exact Below.refl _ _ | refine Below.drew ?_ | refine below_drewN ?_ _ | refine Below.setCell ?_ (by first | omega | (simp; done) | (simp; omega)) _ | refine Below.alloc ?_ (by first | omega | (simp; done) | (simp; omega)) _))⟩ ?_
    clear X0 X1
    rintro V0 ⟨X0, X1, B⟩
    refine (szTape_over _ x0 _ _ (by exact r0.below B) (by omega) (by omega) (by omega)).mono ?_
    rintro e w1 ⟨rfl, hb1⟩
    replace B := B.trans (hb1.mono B.size)
    go_wp2
    go_ret
    exact ⟨rfl, B⟩
  have hc0 := cntTape_le x0
  have KS : ∀ (V : World) (u0 : Value) (u1 : Value), RdTape V (u0) x0 → RdCheat V (u1) x1 → Calls Try.prog 28 #[u0, u1] V fun e V' => ∃ u b0 b1 b2, e = .returned u ∧ OwNetResult V' (u) (newR x0 x1) b0 b1 b2 ∧ (∀ y ∈ b0, V.heap.size ≤ y) ∧ (∀ y ∈ b1, V.heap.size ≤ y) ∧ (∀ y ∈ b2, V.heap.size ≤ y) ∧ Below V.heap.size V V' := fun V u0 u1 h0 h1 => spec_NewNet _ _ _ _ _ h0 h1 (by have : totTape x0 = tot x0 := rfl; omega)
  have KI : ∀ (V : World) (u0 : Value) (u1 : Value), RdTape V (u0) x0 → RdCheat V (u1) x1 → Calls Try.prog 31 #[u0, u1] V fun e V' => ∃ u b0 b1 b2, e = .returned u ∧ OwNetResult V' (u) (newR x0 x1) b0 b1 b2 ∧ (∀ y ∈ b0, V.heap.size ≤ y) ∧ (∀ y ∈ b1, V.heap.size ≤ y) ∧ (∀ y ∈ b2, V.heap.size ≤ y) ∧ Below V.heap.size V V' := fun V u0 u1 h0 h1 => impl_NewNet _ _ _ _ _ h0 h1 (by have : totTape x0 = tot x0 := rfl; omega)
  obtain ⟨r, HS, HI, hcr⟩ : ∃ r : MNetResult, Hid (∀ (V : World) (u0 : Value) (u1 : Value), RdTape V (u0) x0 → RdCheat V (u1) x1 → Calls Try.prog 28 #[u0, u1] V fun e V' => ∃ u b0 b1 b2, e = .returned u ∧ OwNetResult V' (u) r b0 b1 b2 ∧ (∀ y ∈ b0, V.heap.size ≤ y) ∧ (∀ y ∈ b1, V.heap.size ≤ y) ∧ (∀ y ∈ b2, V.heap.size ≤ y) ∧ Below V.heap.size V V') ∧ Hid (∀ (V : World) (u0 : Value) (u1 : Value), RdTape V (u0) x0 → RdCheat V (u1) x1 → Calls Try.prog 31 #[u0, u1] V fun e V' => ∃ u b0 b1 b2, e = .returned u ∧ OwNetResult V' (u) r b0 b1 b2 ∧ (∀ y ∈ b0, V.heap.size ≤ y) ∧ (∀ y ∈ b1, V.heap.size ≤ y) ∧ (∀ y ∈ b2, V.heap.size ≤ y) ∧ Below V.heap.size V V') ∧ cntNetResult r ≤ 268435456 := ⟨newR x0 x1, KS, KI, newR_cnt x0 x1 (by omega)⟩
  clear KS KI
  go_enter Try.func7, Try.ntmps7
  have X0 : Blk ((w.alloc (.cells cs0 41)).alloc (.cells #[.int .i64 x1.xWho, .int .i64 x1.xAt, .int .i64 x1.xBy, .bool x1.xCry] 44)) w.heap.size 41 cs0 := by simpa using (Blk.new w 41 cs0).alloc (.cells #[.int .i64 x1.xWho, .int .i64 x1.xAt, .int .i64 x1.xBy, .bool x1.xCry] 44)
  have X1 : Blk ((w.alloc (.cells cs0 41)).alloc (.cells #[.int .i64 x1.xWho, .int .i64 x1.xAt, .int .i64 x1.xBy, .bool x1.xCry] 44)) (w.heap.size + 1) 44 #[.int .i64 x1.xWho, .int .i64 x1.xAt, .int .i64 x1.xBy, .bool x1.xCry] := by simpa using (Blk.new (w.alloc (.cells cs0 41)) 44 #[.int .i64 x1.xWho, .int .i64 x1.xAt, .int .i64 x1.xBy, .bool x1.xCry])
  go_wp2_with (first | (refine wpList_load_blkg (by rfl) 41 _ rfl w.heap.size rfl X0 Try.underlying41 rfl (RC0.hi (by kernel_rfl)) ?_) | (refine wpList_load_blkg (by rfl) 44 _ rfl (w.heap.size + 1) rfl X1 Try.underlying44 rfl (by kernel_rfl) ?_))
  refine Calls.at (F := fun V => Blk V w.heap.size 41 cs0 ∧ Blk V (w.heap.size + 1) 44 #[.int .i64 x1.xWho, .int .i64 x1.xAt, .int .i64 x1.xBy, .bool x1.xCry] ∧ Below w.heap.size w V) ⟨X0, X1, (by repeat (first | exact Below.refl _ _ | refine Below.drew ?_ | refine below_drewN ?_ _ | refine Below.setCell ?_ (by first | omega | (simp; done) | (simp; omega)) _ | refine Below.alloc ?_ (by first | omega | (simp; done) | (simp; omega)) _))⟩ ?_
  clear X0 X1
  rintro V0 ⟨X0, X1, B⟩
  refine (szTape_fit _ x0 _ _ (by exact r0.below B) (by omega) (by omega) (by omega)).mono ?_
  rintro e w2 ⟨rfl, hb2⟩
  replace X0 := X0.keep hb2
  replace X1 := X1.keep hb2
  replace B := B.trans (hb2.mono B.size)
  (try replace NB := NB.keep hb2)
  clear hb2
  go_wp2_with fail
  (try simp only [Act.put])
  go_cut [6] from 13 (fun s wr => ∃ nz cs_w0 bw0_0 bw0_1 bw0_2, s = .pointer (some ⟨nz, 0, none⟩) ∧ Blk wr w.heap.size 41 cs0 ∧ Blk wr (w.heap.size + 1) 44 #[.int .i64 x1.xWho, .int .i64 x1.xAt, .int .i64 x1.xBy, .bool x1.xCry] ∧ Below w.heap.size w wr ∧ OwNetResult wr (.agg cs_w0) r bw0_0 bw0_1 bw0_2 ∧ Rw 18 cs_w0 ∧ Blk wr nz 61 cs_w0 ∧ w.heap.size ∉ (bw0_0 ++ (bw0_1 ++ bw0_2)) ∧ (w.heap.size + 1) ∉ (bw0_0 ++ (bw0_1 ++ bw0_2)) ∧ (∀ y ∈ (bw0_0 ++ (bw0_1 ++ bw0_2)), w.heap.size ≤ y) ∧ nz ∉ (bw0_0 ++ (bw0_1 ++ bw0_2)))
  case first =>
    refine wp_region_held (S := fun V => Blk V w.heap.size 41 cs0 ∧ Blk V (w.heap.size + 1) 44 #[.int .i64 x1.xWho, .int .i64 x1.xAt, .int .i64 x1.xBy, .bool x1.xCry]) (by kernel_rfl) ?_
    try (change wpAnyH _ _ _ _ _ _ _ _ (World.drew _))
    have hS : (fun V => Blk V w.heap.size 41 cs0 ∧ Blk V (w.heap.size + 1) 44 #[.int .i64 x1.xWho, .int .i64 x1.xAt, .int .i64 x1.xBy, .bool x1.xCry]) _ := ⟨X0.drew, X1.drew⟩
    replace X0 := X0.drew
    replace X1 := X1.drew
    replace B := B.drew
    refine wpAnyH_take (i := 0) (v := _) rfl (by kernel_rfl) (by kernel_rfl) (by kernel_rfl) (fun _ _ _ h => h) (yieldsIf_load_mid (by rfl) _ _ rfl _ _ rfl _ _ (fun _ h => h.1.range) Try.underlying41 rfl (by simpa using (RC0.hi (by kernel_rfl)))) hS ?_
    (try simp only [List.getElem_toArray]); (try simp only [List.getElem_cons_succ]); (try simp only [List.getElem_cons_zero]); (try simp only [Act.put]); (try simp only [List.setIfInBounds_toArray]); (try simp only [List.set_cons_succ]); (try simp only [List.set_cons_zero])
    refine wpAnyH_take (i := 2) (v := _) rfl (by kernel_rfl) (by kernel_rfl) (by kernel_rfl) (fun _ _ _ h => h) (yieldsIf_load_mid (by rfl) _ _ rfl _ _ rfl _ _ (fun _ h => h.2.range) Try.underlying44 rfl (by kernel_rfl)) hS ?_
    (try simp only [List.getElem_toArray]); (try simp only [List.getElem_cons_succ]); (try simp only [List.getElem_cons_zero]); (try simp only [Act.put]); (try simp only [List.setIfInBounds_toArray]); (try simp only [List.set_cons_succ]); (try simp only [List.set_cons_zero])
    refine wpAnyH_ready (rs := [1, 5]) (by kernel_rfl) (by simp) ?_
    refine AllReadyH.cons (o := _) rfl (fun K hK => ?_) (AllReadyH.cons (o := _) rfl (fun K hK => ?_) AllReadyH.nil)
    · rw [if_pos (by rfl)]
      go_simp
      go_at_call 29
      refine (toTape_ow _ x0 _ (by exact r0.below B) (by omega)).mono ?_
      rintro e w3 ⟨u, bw0a0_0, rfl, w0a0, fw0a0_0, hb3⟩
      obtain ⟨cs_w0a0, e_w0a0, R_w0a0⟩ := w0a0.row
      subst e_w0a0
      have F_w0a0 : ∀ y ∈ bw0a0_0, w2.drew.heap.size ≤ y := fw0a0_0
      (try have nbk_w0a0 : _ ∉ bw0a0_0 := fun hm => Nat.not_lt.2 (F_w0a0 _ hm) NB.lt)
      have nb_X0_w0a0 : w.heap.size ∉ bw0a0_0 := fun hm => Nat.not_lt.2 (F_w0a0 _ hm) X0.lt
      have nb_X1_w0a0 : (w.heap.size + 1) ∉ bw0a0_0 := fun hm => Nat.not_lt.2 (F_w0a0 _ hm) X1.lt
      have G_w0a0 : ∀ y ∈ bw0a0_0, w.heap.size ≤ y := fun y hy => Nat.le_trans B.size (F_w0a0 y hy)
      clear F_w0a0
      (try replace NB := NB.keep hb3)
      replace X0 := X0.keep hb3
      replace X1 := X1.keep hb3
      replace B := B.trans (hb3.mono B.size)
      clear hb3 fw0a0_0
      (try dsimp only)
      refine hK.out _ _ ⟨X0, X1⟩ (fun hS => ?_)
      clear hK K
      (try simp only [List.getElem_toArray]); (try simp only [List.getElem_cons_succ]); (try simp only [List.getElem_cons_zero]); (try simp only [Act.put]); (try simp only [List.setIfInBounds_toArray]); (try simp only [List.set_cons_succ]); (try simp only [List.set_cons_zero])
      refine wpAnyH_ready (rs := [3, 5]) (by kernel_rfl) (by simp) ?_
      refine AllReadyH.cons (o := _) rfl (fun K hK => ?_) (AllReadyH.cons (o := _) rfl (fun K hK => ?_) AllReadyH.nil)
      · rw [if_pos (by rfl)]
        go_simp
        go_at_call 30
        refine (toCheat_ow _ x1 _ (by exact rfl)).mono ?_
        rintro e w4 ⟨rfl, hb4⟩
        (try replace NB := NB.keep hb4)
        replace X0 := X0.keep hb4
        replace X1 := X1.keep hb4
        replace w0a0 := w0a0.keep hb4
        replace B := B.trans (hb4.mono B.size)
        clear hb4
        (try dsimp only)
        refine hK.out _ _ ⟨X0, X1⟩ (fun hS => ?_)
        clear hK K
        (try simp only [List.getElem_toArray]); (try simp only [List.getElem_cons_succ]); (try simp only [List.getElem_cons_zero]); (try simp only [Act.put]); (try simp only [List.setIfInBounds_toArray]); (try simp only [List.set_cons_succ]); (try simp only [List.set_cons_zero])
        refine wpAnyH_ready (rs := [4, 5]) (by kernel_rfl) (by simp) ?_
        refine AllReadyH.cons (o := _) rfl (fun K hK => ?_) (AllReadyH.cons (o := _) rfl (fun K hK => ?_) AllReadyH.nil)
        · rw [if_pos (by rfl)]
          go_simp
          go_at_call 28
          refine (HS.out _ _ _ (by exact w0a0.rd) (by exact rfl)).mono ?_
          rintro e w5 ⟨u, bw0_0, bw0_1, bw0_2, rfl, w0, fw0_0, fw0_1, fw0_2, hb5⟩
          obtain ⟨cs_w0, e_w0, R_w0⟩ := w0.row
          subst e_w0
          have F_w0 : ∀ y ∈ (bw0_0 ++ (bw0_1 ++ bw0_2)), w4.heap.size ≤ y := all_app fw0_0 (all_app fw0_1 fw0_2)
          (try have nbk_w0 : _ ∉ (bw0_0 ++ (bw0_1 ++ bw0_2)) := fun hm => Nat.not_lt.2 (F_w0 _ hm) NB.lt)
          have dj_w0a0_w0 : Dj bw0a0_0 (bw0_0 ++ (bw0_1 ++ bw0_2)) := fun y hy hm => Nat.not_lt.2 (F_w0 y hm) (w0a0.lt y hy)
          have nb_X0_w0 : w.heap.size ∉ (bw0_0 ++ (bw0_1 ++ bw0_2)) := fun hm => Nat.not_lt.2 (F_w0 _ hm) X0.lt
          have nb_X1_w0 : (w.heap.size + 1) ∉ (bw0_0 ++ (bw0_1 ++ bw0_2)) := fun hm => Nat.not_lt.2 (F_w0 _ hm) X1.lt
          have G_w0 : ∀ y ∈ (bw0_0 ++ (bw0_1 ++ bw0_2)), w.heap.size ≤ y := fun y hy => Nat.le_trans B.size (F_w0 y hy)
          clear F_w0
          (try replace NB := NB.keep hb5)
          replace X0 := X0.keep hb5
          replace X1 := X1.keep hb5
          replace w0a0 := w0a0.keep hb5
          replace B := B.trans (hb5.mono B.size)
          clear hb5 fw0_0 fw0_1 fw0_2
          (try dsimp only)
          refine hK.out _ _ ⟨X0, X1⟩ (fun hS => ?_)
          clear hK K
          (try simp only [List.getElem_toArray]); (try simp only [List.getElem_cons_succ]); (try simp only [List.getElem_cons_zero]); (try simp only [Act.put]); (try simp only [List.setIfInBounds_toArray]); (try simp only [List.set_cons_succ]); (try simp only [List.set_cons_zero])
          refine wpAnyH_ready (rs := [5]) (by kernel_rfl) (by simp) ?_
          refine AllReadyH.cons (o := _) rfl (fun K hK => ?_) AllReadyH.nil
          rw [if_pos (by rfl)]
          go_simp
          have nbx_X0 : w.heap.size ≠ w5.heap.size := Nat.ne_of_lt X0.lt
          have nbx_X1 : (w.heap.size + 1) ≠ w5.heap.size := Nat.ne_of_lt X1.lt
          have nbk_w0a0 : w5.heap.size ∉ bw0a0_0 := fun hm => Nat.lt_irrefl _ (w0a0.lt _ hm)
          have nbk_w0 : w5.heap.size ∉ (bw0_0 ++ (bw0_1 ++ bw0_2)) := fun hm => Nat.lt_irrefl _ (w0.lt _ hm)
          replace X0 := X0.alloc (.cells #[.int .i64 0, .int .i64 0, .slice none 0 0, .slice none 0 0, .int .i64 0, .slice none 0 0, .int .i64 0, .int .i64 0, .int .i64 0, .bool false, .bool false, .int .i64 0, .int .i64 0, .int .i64 0, .int .i64 0, .int .i64 0, .int .i64 0, .int .i64 0] 61)
          replace X1 := X1.alloc (.cells #[.int .i64 0, .int .i64 0, .slice none 0 0, .slice none 0 0, .int .i64 0, .slice none 0 0, .int .i64 0, .int .i64 0, .int .i64 0, .bool false, .bool false, .int .i64 0, .int .i64 0, .int .i64 0, .int .i64 0, .int .i64 0, .int .i64 0, .int .i64 0] 61)
          replace w0a0 := w0a0.alloc (.cells #[.int .i64 0, .int .i64 0, .slice none 0 0, .slice none 0 0, .int .i64 0, .slice none 0 0, .int .i64 0, .int .i64 0, .int .i64 0, .bool false, .bool false, .int .i64 0, .int .i64 0, .int .i64 0, .int .i64 0, .int .i64 0, .int .i64 0, .int .i64 0] 61)
          replace w0 := w0.alloc (.cells #[.int .i64 0, .int .i64 0, .slice none 0 0, .slice none 0 0, .int .i64 0, .slice none 0 0, .int .i64 0, .int .i64 0, .int .i64 0, .bool false, .bool false, .int .i64 0, .int .i64 0, .int .i64 0, .int .i64 0, .int .i64 0, .int .i64 0, .int .i64 0] 61)
          have NB := Blk.new w5 61 #[.int .i64 0, .int .i64 0, .slice none 0 0, .slice none 0 0, .int .i64 0, .slice none 0 0, .int .i64 0, .int .i64 0, .int .i64 0, .bool false, .bool false, .int .i64 0, .int .i64 0, .int .i64 0, .int .i64 0, .int .i64 0, .int .i64 0, .int .i64 0]
          have gNB : w.heap.size ≤ w5.heap.size := B.size
          replace B := B.alloc B.size (.cells #[.int .i64 0, .int .i64 0, .slice none 0 0, .slice none 0 0, .int .i64 0, .slice none 0 0, .int .i64 0, .int .i64 0, .int .i64 0, .bool false, .bool false, .int .i64 0, .int .i64 0, .int .i64 0, .int .i64 0, .int .i64 0, .int .i64 0, .int .i64 0] 61)
          refine hK.out _ _ ⟨X0, X1⟩ (fun hS => ?_)
          clear hK K
          (try simp only [List.getElem_toArray]); (try simp only [List.getElem_cons_succ]); (try simp only [List.getElem_cons_zero]); (try simp only [Act.put]); (try simp only [List.setIfInBounds_toArray]); (try simp only [List.set_cons_succ]); (try simp only [List.set_cons_zero])
          refine wpAnyH_ready (rs := [6]) (by kernel_rfl) (by simp) ?_
          refine AllReadyH.cons (o := _) rfl (fun K hK => ?_) AllReadyH.nil
          refine step_store_blk rfl 61 _ _ rfl w5.heap.size cs_w0 rfl rfl NB (by rw [R_w0.1]; rfl) (R_w0.hi (by kernel_rfl)) R_w0.2 ?_
          intro w9 Y9 O9
          refine hK.out _ _ ⟨(X0.off O9 (ne_one (nbx_X0))), (X1.off O9 (ne_one (nbx_X1)))⟩ (fun hS => ?_)
          clear hK K
          (try simp only [List.getElem_toArray]); (try simp only [List.getElem_cons_succ]); (try simp only [List.getElem_cons_zero]); (try simp only [Act.put]); (try simp only [List.setIfInBounds_toArray]); (try simp only [List.set_cons_succ]); (try simp only [List.set_cons_zero])
          refine wpAnyH_done (by kernel_rfl) ?_ _
          have FIN : ∃ nz cs_w0 bw0_0 bw0_1 bw0_2, (Value.pointer (some ⟨w5.heap.size, 0, none⟩)) = .pointer (some ⟨nz, 0, none⟩) ∧ Blk w9 w.heap.size 41 cs0 ∧ Blk w9 (w.heap.size + 1) 44 #[.int .i64 x1.xWho, .int .i64 x1.xAt, .int .i64 x1.xBy, .bool x1.xCry] ∧ Below w.heap.size w w9 ∧ OwNetResult w9 (.agg cs_w0) r bw0_0 bw0_1 bw0_2 ∧ Rw 18 cs_w0 ∧ Blk w9 nz 61 cs_w0 ∧ w.heap.size ∉ (bw0_0 ++ (bw0_1 ++ bw0_2)) ∧ (w.heap.size + 1) ∉ (bw0_0 ++ (bw0_1 ++ bw0_2)) ∧ (∀ y ∈ (bw0_0 ++ (bw0_1 ++ bw0_2)), w.heap.size ≤ y) ∧ nz ∉ (bw0_0 ++ (bw0_1 ++ bw0_2)) := ⟨w5.heap.size, cs_w0, bw0_0, bw0_1, bw0_2, rfl, X0.off O9 (ne_one (nbx_X0)), X1.off O9 (ne_one (nbx_X1)), B.trans (O9.toBelow B.size (fun y hy => by rw [List.mem_singleton.1 hy]; exact gNB)), w0.off O9 (fun y hy hm => nbk_w0 (by have e := List.mem_singleton.1 hm; subst e; exact hy)), R_w0, Y9, nb_X0_w0, nb_X1_w0, G_w0, nbk_w0⟩
          go_wp2
          go_meet
          case rel => exact FIN
        · rw [if_pos (by rfl)]
          go_simp
          have nbx_X0 : w.heap.size ≠ w4.heap.size := Nat.ne_of_lt X0.lt
          have nbx_X1 : (w.heap.size + 1) ≠ w4.heap.size := Nat.ne_of_lt X1.lt
          have nbk_w0a0 : w4.heap.size ∉ bw0a0_0 := fun hm => Nat.lt_irrefl _ (w0a0.lt _ hm)
          replace X0 := X0.alloc (.cells #[.int .i64 0, .int .i64 0, .slice none 0 0, .slice none 0 0, .int .i64 0, .slice none 0 0, .int .i64 0, .int .i64 0, .int .i64 0, .bool false, .bool false, .int .i64 0, .int .i64 0, .int .i64 0, .int .i64 0, .int .i64 0, .int .i64 0, .int .i64 0] 61)
          replace X1 := X1.alloc (.cells #[.int .i64 0, .int .i64 0, .slice none 0 0, .slice none 0 0, .int .i64 0, .slice none 0 0, .int .i64 0, .int .i64 0, .int .i64 0, .bool false, .bool false, .int .i64 0, .int .i64 0, .int .i64 0, .int .i64 0, .int .i64 0, .int .i64 0, .int .i64 0] 61)
          replace w0a0 := w0a0.alloc (.cells #[.int .i64 0, .int .i64 0, .slice none 0 0, .slice none 0 0, .int .i64 0, .slice none 0 0, .int .i64 0, .int .i64 0, .int .i64 0, .bool false, .bool false, .int .i64 0, .int .i64 0, .int .i64 0, .int .i64 0, .int .i64 0, .int .i64 0, .int .i64 0] 61)
          have NB := Blk.new w4 61 #[.int .i64 0, .int .i64 0, .slice none 0 0, .slice none 0 0, .int .i64 0, .slice none 0 0, .int .i64 0, .int .i64 0, .int .i64 0, .bool false, .bool false, .int .i64 0, .int .i64 0, .int .i64 0, .int .i64 0, .int .i64 0, .int .i64 0, .int .i64 0]
          have gNB : w.heap.size ≤ w4.heap.size := B.size
          replace B := B.alloc B.size (.cells #[.int .i64 0, .int .i64 0, .slice none 0 0, .slice none 0 0, .int .i64 0, .slice none 0 0, .int .i64 0, .int .i64 0, .int .i64 0, .bool false, .bool false, .int .i64 0, .int .i64 0, .int .i64 0, .int .i64 0, .int .i64 0, .int .i64 0, .int .i64 0] 61)
          refine hK.out _ _ ⟨X0, X1⟩ (fun hS => ?_)
          clear hK K
          (try simp only [List.getElem_toArray]); (try simp only [List.getElem_cons_succ]); (try simp only [List.getElem_cons_zero]); (try simp only [Act.put]); (try simp only [List.setIfInBounds_toArray]); (try simp only [List.set_cons_succ]); (try simp only [List.set_cons_zero])
          refine wpAnyH_ready (rs := [4]) (by kernel_rfl) (by simp) ?_
          refine AllReadyH.cons (o := _) rfl (fun K hK => ?_) AllReadyH.nil
          rw [if_pos (by rfl)]
          go_simp
          go_at_call 28
          refine (HS.out _ _ _ (by exact w0a0.rd) (by exact rfl)).mono ?_
          rintro e w6 ⟨u, bw0_0, bw0_1, bw0_2, rfl, w0, fw0_0, fw0_1, fw0_2, hb6⟩
          obtain ⟨cs_w0, e_w0, R_w0⟩ := w0.row
          subst e_w0
          have F_w0 : ∀ y ∈ (bw0_0 ++ (bw0_1 ++ bw0_2)), (w4.alloc (.cells #[.int .i64 0, .int .i64 0, .slice none 0 0, .slice none 0 0, .int .i64 0, .slice none 0 0, .int .i64 0, .int .i64 0, .int .i64 0, .bool false, .bool false, .int .i64 0, .int .i64 0, .int .i64 0, .int .i64 0, .int .i64 0, .int .i64 0, .int .i64 0] 61)).heap.size ≤ y := all_app fw0_0 (all_app fw0_1 fw0_2)
          (try have nbk_w0 : _ ∉ (bw0_0 ++ (bw0_1 ++ bw0_2)) := fun hm => Nat.not_lt.2 (F_w0 _ hm) NB.lt)
          have dj_w0a0_w0 : Dj bw0a0_0 (bw0_0 ++ (bw0_1 ++ bw0_2)) := fun y hy hm => Nat.not_lt.2 (F_w0 y hm) (w0a0.lt y hy)
          have nb_X0_w0 : w.heap.size ∉ (bw0_0 ++ (bw0_1 ++ bw0_2)) := fun hm => Nat.not_lt.2 (F_w0 _ hm) X0.lt
          have nb_X1_w0 : (w.heap.size + 1) ∉ (bw0_0 ++ (bw0_1 ++ bw0_2)) := fun hm => Nat.not_lt.2 (F_w0 _ hm) X1.lt
          have G_w0 : ∀ y ∈ (bw0_0 ++ (bw0_1 ++ bw0_2)), w.heap.size ≤ y := fun y hy => Nat.le_trans B.size (F_w0 y hy)
          clear F_w0
          (try replace NB := NB.keep hb6)
          replace X0 := X0.keep hb6
          replace X1 := X1.keep hb6
          replace w0a0 := w0a0.keep hb6
          replace B := B.trans (hb6.mono B.size)
          clear hb6 fw0_0 fw0_1 fw0_2
          (try dsimp only)
          refine hK.out _ _ ⟨X0, X1⟩ (fun hS => ?_)
          clear hK K
          (try simp only [List.getElem_toArray]); (try simp only [List.getElem_cons_succ]); (try simp only [List.getElem_cons_zero]); (try simp only [Act.put]); (try simp only [List.setIfInBounds_toArray]); (try simp only [List.set_cons_succ]); (try simp only [List.set_cons_zero])
          refine wpAnyH_ready (rs := [6]) (by kernel_rfl) (by simp) ?_
          refine AllReadyH.cons (o := _) rfl (fun K hK => ?_) AllReadyH.nil
          refine step_store_blk rfl 61 _ _ rfl w4.heap.size cs_w0 rfl rfl NB (by rw [R_w0.1]; rfl) (R_w0.hi (by kernel_rfl)) R_w0.2 ?_
          intro w9 Y9 O9
          refine hK.out _ _ ⟨(X0.off O9 (ne_one (nbx_X0))), (X1.off O9 (ne_one (nbx_X1)))⟩ (fun hS => ?_)
          clear hK K
          (try simp only [List.getElem_toArray]); (try simp only [List.getElem_cons_succ]); (try simp only [List.getElem_cons_zero]); (try simp only [Act.put]); (try simp only [List.setIfInBounds_toArray]); (try simp only [List.set_cons_succ]); (try simp only [List.set_cons_zero])
          refine wpAnyH_done (by kernel_rfl) ?_ _
          have FIN : ∃ nz cs_w0 bw0_0 bw0_1 bw0_2, (Value.pointer (some ⟨w4.heap.size, 0, none⟩)) = .pointer (some ⟨nz, 0, none⟩) ∧ Blk w9 w.heap.size 41 cs0 ∧ Blk w9 (w.heap.size + 1) 44 #[.int .i64 x1.xWho, .int .i64 x1.xAt, .int .i64 x1.xBy, .bool x1.xCry] ∧ Below w.heap.size w w9 ∧ OwNetResult w9 (.agg cs_w0) r bw0_0 bw0_1 bw0_2 ∧ Rw 18 cs_w0 ∧ Blk w9 nz 61 cs_w0 ∧ w.heap.size ∉ (bw0_0 ++ (bw0_1 ++ bw0_2)) ∧ (w.heap.size + 1) ∉ (bw0_0 ++ (bw0_1 ++ bw0_2)) ∧ (∀ y ∈ (bw0_0 ++ (bw0_1 ++ bw0_2)), w.heap.size ≤ y) ∧ nz ∉ (bw0_0 ++ (bw0_1 ++ bw0_2)) := ⟨w4.heap.size, cs_w0, bw0_0, bw0_1, bw0_2, rfl, X0.off O9 (ne_one (nbx_X0)), X1.off O9 (ne_one (nbx_X1)), B.trans (O9.toBelow B.size (fun y hy => by rw [List.mem_singleton.1 hy]; exact gNB)), w0.off O9 (fun y hy hm => nbk_w0 (by have e := List.mem_singleton.1 hm; subst e; exact hy)), R_w0, Y9, nb_X0_w0, nb_X1_w0, G_w0, nbk_w0⟩
          go_wp2
          go_meet
          case rel => exact FIN
      · rw [if_pos (by rfl)]
        go_simp
        have nbx_X0 : w.heap.size ≠ w3.heap.size := Nat.ne_of_lt X0.lt
        have nbx_X1 : (w.heap.size + 1) ≠ w3.heap.size := Nat.ne_of_lt X1.lt
        have nbk_w0a0 : w3.heap.size ∉ bw0a0_0 := fun hm => Nat.lt_irrefl _ (w0a0.lt _ hm)
        replace X0 := X0.alloc (.cells #[.int .i64 0, .int .i64 0, .slice none 0 0, .slice none 0 0, .int .i64 0, .slice none 0 0, .int .i64 0, .int .i64 0, .int .i64 0, .bool false, .bool false, .int .i64 0, .int .i64 0, .int .i64 0, .int .i64 0, .int .i64 0, .int .i64 0, .int .i64 0] 61)
        replace X1 := X1.alloc (.cells #[.int .i64 0, .int .i64 0, .slice none 0 0, .slice none 0 0, .int .i64 0, .slice none 0 0, .int .i64 0, .int .i64 0, .int .i64 0, .bool false, .bool false, .int .i64 0, .int .i64 0, .int .i64 0, .int .i64 0, .int .i64 0, .int .i64 0, .int .i64 0] 61)
        replace w0a0 := w0a0.alloc (.cells #[.int .i64 0, .int .i64 0, .slice none 0 0, .slice none 0 0, .int .i64 0, .slice none 0 0, .int .i64 0, .int .i64 0, .int .i64 0, .bool false, .bool false, .int .i64 0, .int .i64 0, .int .i64 0, .int .i64 0, .int .i64 0, .int .i64 0, .int .i64 0] 61)
        have NB := Blk.new w3 61 #[.int .i64 0, .int .i64 0, .slice none 0 0, .slice none 0 0, .int .i64 0, .slice none 0 0, .int .i64 0, .int .i64 0, .int .i64 0, .bool false, .bool false, .int .i64 0, .int .i64 0, .int .i64 0, .int .i64 0, .int .i64 0, .int .i64 0, .int .i64 0]
        have gNB : w.heap.size ≤ w3.heap.size := B.size
        replace B := B.alloc B.size (.cells #[.int .i64 0, .int .i64 0, .slice none 0 0, .slice none 0 0, .int .i64 0, .slice none 0 0, .int .i64 0, .int .i64 0, .int .i64 0, .bool false, .bool false, .int .i64 0, .int .i64 0, .int .i64 0, .int .i64 0, .int .i64 0, .int .i64 0, .int .i64 0] 61)
        refine hK.out _ _ ⟨X0, X1⟩ (fun hS => ?_)
        clear hK K
        (try simp only [List.getElem_toArray]); (try simp only [List.getElem_cons_succ]); (try simp only [List.getElem_cons_zero]); (try simp only [Act.put]); (try simp only [List.setIfInBounds_toArray]); (try simp only [List.set_cons_succ]); (try simp only [List.set_cons_zero])
        refine wpAnyH_ready (rs := [3]) (by kernel_rfl) (by simp) ?_
        refine AllReadyH.cons (o := _) rfl (fun K hK => ?_) AllReadyH.nil
        rw [if_pos (by rfl)]
        go_simp
        go_at_call 30
        refine (toCheat_ow _ x1 _ (by exact rfl)).mono ?_
        rintro e w7 ⟨rfl, hb7⟩
        (try replace NB := NB.keep hb7)
        replace X0 := X0.keep hb7
        replace X1 := X1.keep hb7
        replace w0a0 := w0a0.keep hb7
        replace B := B.trans (hb7.mono B.size)
        clear hb7
        (try dsimp only)
        refine hK.out _ _ ⟨X0, X1⟩ (fun hS => ?_)
        clear hK K
        (try simp only [List.getElem_toArray]); (try simp only [List.getElem_cons_succ]); (try simp only [List.getElem_cons_zero]); (try simp only [Act.put]); (try simp only [List.setIfInBounds_toArray]); (try simp only [List.set_cons_succ]); (try simp only [List.set_cons_zero])
        refine wpAnyH_ready (rs := [4]) (by kernel_rfl) (by simp) ?_
        refine AllReadyH.cons (o := _) rfl (fun K hK => ?_) AllReadyH.nil
        rw [if_pos (by rfl)]
        go_simp
        go_at_call 28
        refine (HS.out _ _ _ (by exact w0a0.rd) (by exact rfl)).mono ?_
        rintro e w8 ⟨u, bw0_0, bw0_1, bw0_2, rfl, w0, fw0_0, fw0_1, fw0_2, hb8⟩
        obtain ⟨cs_w0, e_w0, R_w0⟩ := w0.row
        subst e_w0
        have F_w0 : ∀ y ∈ (bw0_0 ++ (bw0_1 ++ bw0_2)), w7.heap.size ≤ y := all_app fw0_0 (all_app fw0_1 fw0_2)
        (try have nbk_w0 : _ ∉ (bw0_0 ++ (bw0_1 ++ bw0_2)) := fun hm => Nat.not_lt.2 (F_w0 _ hm) NB.lt)
        have dj_w0a0_w0 : Dj bw0a0_0 (bw0_0 ++ (bw0_1 ++ bw0_2)) := fun y hy hm => Nat.not_lt.2 (F_w0 y hm) (w0a0.lt y hy)
        have nb_X0_w0 : w.heap.size ∉ (bw0_0 ++ (bw0_1 ++ bw0_2)) := fun hm => Nat.not_lt.2 (F_w0 _ hm) X0.lt
        have nb_X1_w0 : (w.heap.size + 1) ∉ (bw0_0 ++ (bw0_1 ++ bw0_2)) := fun hm => Nat.not_lt.2 (F_w0 _ hm) X1.lt
        have G_w0 : ∀ y ∈ (bw0_0 ++ (bw0_1 ++ bw0_2)), w.heap.size ≤ y := fun y hy => Nat.le_trans B.size (F_w0 y hy)
        clear F_w0
        (try replace NB := NB.keep hb8)
        replace X0 := X0.keep hb8
        replace X1 := X1.keep hb8
        replace w0a0 := w0a0.keep hb8
        replace B := B.trans (hb8.mono B.size)
        clear hb8 fw0_0 fw0_1 fw0_2
        (try dsimp only)
        refine hK.out _ _ ⟨X0, X1⟩ (fun hS => ?_)
        clear hK K
        (try simp only [List.getElem_toArray]); (try simp only [List.getElem_cons_succ]); (try simp only [List.getElem_cons_zero]); (try simp only [Act.put]); (try simp only [List.setIfInBounds_toArray]); (try simp only [List.set_cons_succ]); (try simp only [List.set_cons_zero])
        refine wpAnyH_ready (rs := [6]) (by kernel_rfl) (by simp) ?_
        refine AllReadyH.cons (o := _) rfl (fun K hK => ?_) AllReadyH.nil
        refine step_store_blk rfl 61 _ _ rfl w3.heap.size cs_w0 rfl rfl NB (by rw [R_w0.1]; rfl) (R_w0.hi (by kernel_rfl)) R_w0.2 ?_
        intro w9 Y9 O9
        refine hK.out _ _ ⟨(X0.off O9 (ne_one (nbx_X0))), (X1.off O9 (ne_one (nbx_X1)))⟩ (fun hS => ?_)
        clear hK K
        (try simp only [List.getElem_toArray]); (try simp only [List.getElem_cons_succ]); (try simp only [List.getElem_cons_zero]); (try simp only [Act.put]); (try simp only [List.setIfInBounds_toArray]); (try simp only [List.set_cons_succ]); (try simp only [List.set_cons_zero])
        refine wpAnyH_done (by kernel_rfl) ?_ _
        have FIN : ∃ nz cs_w0 bw0_0 bw0_1 bw0_2, (Value.pointer (some ⟨w3.heap.size, 0, none⟩)) = .pointer (some ⟨nz, 0, none⟩) ∧ Blk w9 w.heap.size 41 cs0 ∧ Blk w9 (w.heap.size + 1) 44 #[.int .i64 x1.xWho, .int .i64 x1.xAt, .int .i64 x1.xBy, .bool x1.xCry] ∧ Below w.heap.size w w9 ∧ OwNetResult w9 (.agg cs_w0) r bw0_0 bw0_1 bw0_2 ∧ Rw 18 cs_w0 ∧ Blk w9 nz 61 cs_w0 ∧ w.heap.size ∉ (bw0_0 ++ (bw0_1 ++ bw0_2)) ∧ (w.heap.size + 1) ∉ (bw0_0 ++ (bw0_1 ++ bw0_2)) ∧ (∀ y ∈ (bw0_0 ++ (bw0_1 ++ bw0_2)), w.heap.size ≤ y) ∧ nz ∉ (bw0_0 ++ (bw0_1 ++ bw0_2)) := ⟨w3.heap.size, cs_w0, bw0_0, bw0_1, bw0_2, rfl, X0.off O9 (ne_one (nbx_X0)), X1.off O9 (ne_one (nbx_X1)), B.trans (O9.toBelow B.size (fun y hy => by rw [List.mem_singleton.1 hy]; exact gNB)), w0.off O9 (fun y hy hm => nbk_w0 (by have e := List.mem_singleton.1 hm; subst e; exact hy)), R_w0, Y9, nb_X0_w0, nb_X1_w0, G_w0, nbk_w0⟩
        go_wp2
        go_meet
        case rel => exact FIN
    · rw [if_pos (by rfl)]
      go_simp
      have nbx_X0 : w.heap.size ≠ w2.heap.size := Nat.ne_of_lt X0.lt
      have nbx_X1 : (w.heap.size + 1) ≠ w2.heap.size := Nat.ne_of_lt X1.lt
      replace X0 := X0.alloc (.cells #[.int .i64 0, .int .i64 0, .slice none 0 0, .slice none 0 0, .int .i64 0, .slice none 0 0, .int .i64 0, .int .i64 0, .int .i64 0, .bool false, .bool false, .int .i64 0, .int .i64 0, .int .i64 0, .int .i64 0, .int .i64 0, .int .i64 0, .int .i64 0] 61)
      replace X1 := X1.alloc (.cells #[.int .i64 0, .int .i64 0, .slice none 0 0, .slice none 0 0, .int .i64 0, .slice none 0 0, .int .i64 0, .int .i64 0, .int .i64 0, .bool false, .bool false, .int .i64 0, .int .i64 0, .int .i64 0, .int .i64 0, .int .i64 0, .int .i64 0, .int .i64 0] 61)
      have NB := Blk.new w2.drew 61 #[.int .i64 0, .int .i64 0, .slice none 0 0, .slice none 0 0, .int .i64 0, .slice none 0 0, .int .i64 0, .int .i64 0, .int .i64 0, .bool false, .bool false, .int .i64 0, .int .i64 0, .int .i64 0, .int .i64 0, .int .i64 0, .int .i64 0, .int .i64 0]
      have gNB : w.heap.size ≤ w2.heap.size := B.size
      replace B := B.alloc B.size (.cells #[.int .i64 0, .int .i64 0, .slice none 0 0, .slice none 0 0, .int .i64 0, .slice none 0 0, .int .i64 0, .int .i64 0, .int .i64 0, .bool false, .bool false, .int .i64 0, .int .i64 0, .int .i64 0, .int .i64 0, .int .i64 0, .int .i64 0, .int .i64 0] 61)
      refine hK.out _ _ ⟨X0, X1⟩ (fun hS => ?_)
      clear hK K
      (try simp only [List.getElem_toArray]); (try simp only [List.getElem_cons_succ]); (try simp only [List.getElem_cons_zero]); (try simp only [Act.put]); (try simp only [List.setIfInBounds_toArray]); (try simp only [List.set_cons_succ]); (try simp only [List.set_cons_zero])
      refine wpAnyH_ready (rs := [1]) (by kernel_rfl) (by simp) ?_
      refine AllReadyH.cons (o := _) rfl (fun K hK => ?_) AllReadyH.nil
      rw [if_pos (by rfl)]
      go_simp
      go_at_call 29
      refine (toTape_ow _ x0 _ (by exact r0.below B) (by omega)).mono ?_
      rintro e w9 ⟨u, bw0a0_0, rfl, w0a0, fw0a0_0, hb9⟩
      obtain ⟨cs_w0a0, e_w0a0, R_w0a0⟩ := w0a0.row
      subst e_w0a0
      have F_w0a0 : ∀ y ∈ bw0a0_0, (w2.drew.alloc (.cells #[.int .i64 0, .int .i64 0, .slice none 0 0, .slice none 0 0, .int .i64 0, .slice none 0 0, .int .i64 0, .int .i64 0, .int .i64 0, .bool false, .bool false, .int .i64 0, .int .i64 0, .int .i64 0, .int .i64 0, .int .i64 0, .int .i64 0, .int .i64 0] 61)).heap.size ≤ y := fw0a0_0
      (try have nbk_w0a0 : _ ∉ bw0a0_0 := fun hm => Nat.not_lt.2 (F_w0a0 _ hm) NB.lt)
      have nb_X0_w0a0 : w.heap.size ∉ bw0a0_0 := fun hm => Nat.not_lt.2 (F_w0a0 _ hm) X0.lt
      have nb_X1_w0a0 : (w.heap.size + 1) ∉ bw0a0_0 := fun hm => Nat.not_lt.2 (F_w0a0 _ hm) X1.lt
      have G_w0a0 : ∀ y ∈ bw0a0_0, w.heap.size ≤ y := fun y hy => Nat.le_trans B.size (F_w0a0 y hy)
      clear F_w0a0
      (try replace NB := NB.keep hb9)
      replace X0 := X0.keep hb9
      replace X1 := X1.keep hb9
      replace B := B.trans (hb9.mono B.size)
      clear hb9 fw0a0_0
      (try dsimp only)
      refine hK.out _ _ ⟨X0, X1⟩ (fun hS => ?_)
      clear hK K
      (try simp only [List.getElem_toArray]); (try simp only [List.getElem_cons_succ]); (try simp only [List.getElem_cons_zero]); (try simp only [Act.put]); (try simp only [List.setIfInBounds_toArray]); (try simp only [List.set_cons_succ]); (try simp only [List.set_cons_zero])
      refine wpAnyH_ready (rs := [3]) (by kernel_rfl) (by simp) ?_
      refine AllReadyH.cons (o := _) rfl (fun K hK => ?_) AllReadyH.nil
      rw [if_pos (by rfl)]
      go_simp
      go_at_call 30
      refine (toCheat_ow _ x1 _ (by exact rfl)).mono ?_
      rintro e w10 ⟨rfl, hb10⟩
      (try replace NB := NB.keep hb10)
      replace X0 := X0.keep hb10
      replace X1 := X1.keep hb10
      replace w0a0 := w0a0.keep hb10
      replace B := B.trans (hb10.mono B.size)
      clear hb10
      (try dsimp only)
      refine hK.out _ _ ⟨X0, X1⟩ (fun hS => ?_)
      clear hK K
      (try simp only [List.getElem_toArray]); (try simp only [List.getElem_cons_succ]); (try simp only [List.getElem_cons_zero]); (try simp only [Act.put]); (try simp only [List.setIfInBounds_toArray]); (try simp only [List.set_cons_succ]); (try simp only [List.set_cons_zero])
      refine wpAnyH_ready (rs := [4]) (by kernel_rfl) (by simp) ?_
      refine AllReadyH.cons (o := _) rfl (fun K hK => ?_) AllReadyH.nil
      rw [if_pos (by rfl)]
      go_simp
      go_at_call 28
      refine (HS.out _ _ _ (by exact w0a0.rd) (by exact rfl)).mono ?_
      rintro e w11 ⟨u, bw0_0, bw0_1, bw0_2, rfl, w0, fw0_0, fw0_1, fw0_2, hb11⟩
      obtain ⟨cs_w0, e_w0, R_w0⟩ := w0.row
      subst e_w0
      have F_w0 : ∀ y ∈ (bw0_0 ++ (bw0_1 ++ bw0_2)), w10.heap.size ≤ y := all_app fw0_0 (all_app fw0_1 fw0_2)
      (try have nbk_w0 : _ ∉ (bw0_0 ++ (bw0_1 ++ bw0_2)) := fun hm => Nat.not_lt.2 (F_w0 _ hm) NB.lt)
      have dj_w0a0_w0 : Dj bw0a0_0 (bw0_0 ++ (bw0_1 ++ bw0_2)) := fun y hy hm => Nat.not_lt.2 (F_w0 y hm) (w0a0.lt y hy)
      have nb_X0_w0 : w.heap.size ∉ (bw0_0 ++ (bw0_1 ++ bw0_2)) := fun hm => Nat.not_lt.2 (F_w0 _ hm) X0.lt
      have nb_X1_w0 : (w.heap.size + 1) ∉ (bw0_0 ++ (bw0_1 ++ bw0_2)) := fun hm => Nat.not_lt.2 (F_w0 _ hm) X1.lt
      have G_w0 : ∀ y ∈ (bw0_0 ++ (bw0_1 ++ bw0_2)), w.heap.size ≤ y := fun y hy => Nat.le_trans B.size (F_w0 y hy)
      clear F_w0
      (try replace NB := NB.keep hb11)
      replace X0 := X0.keep hb11
      replace X1 := X1.keep hb11
      replace w0a0 := w0a0.keep hb11
      replace B := B.trans (hb11.mono B.size)
      clear hb11 fw0_0 fw0_1 fw0_2
      (try dsimp only)
      refine hK.out _ _ ⟨X0, X1⟩ (fun hS => ?_)
      clear hK K
      (try simp only [List.getElem_toArray]); (try simp only [List.getElem_cons_succ]); (try simp only [List.getElem_cons_zero]); (try simp only [Act.put]); (try simp only [List.setIfInBounds_toArray]); (try simp only [List.set_cons_succ]); (try simp only [List.set_cons_zero])
      refine wpAnyH_ready (rs := [6]) (by kernel_rfl) (by simp) ?_
      refine AllReadyH.cons (o := _) rfl (fun K hK => ?_) AllReadyH.nil
      refine step_store_blk rfl 61 _ _ rfl w2.heap.size cs_w0 rfl rfl NB (by rw [R_w0.1]; rfl) (R_w0.hi (by kernel_rfl)) R_w0.2 ?_
      intro w9 Y9 O9
      refine hK.out _ _ ⟨(X0.off O9 (ne_one (nbx_X0))), (X1.off O9 (ne_one (nbx_X1)))⟩ (fun hS => ?_)
      clear hK K
      (try simp only [List.getElem_toArray]); (try simp only [List.getElem_cons_succ]); (try simp only [List.getElem_cons_zero]); (try simp only [Act.put]); (try simp only [List.setIfInBounds_toArray]); (try simp only [List.set_cons_succ]); (try simp only [List.set_cons_zero])
      refine wpAnyH_done (by kernel_rfl) ?_ _
      have FIN : ∃ nz cs_w0 bw0_0 bw0_1 bw0_2, (Value.pointer (some ⟨w2.heap.size, 0, none⟩)) = .pointer (some ⟨nz, 0, none⟩) ∧ Blk w9 w.heap.size 41 cs0 ∧ Blk w9 (w.heap.size + 1) 44 #[.int .i64 x1.xWho, .int .i64 x1.xAt, .int .i64 x1.xBy, .bool x1.xCry] ∧ Below w.heap.size w w9 ∧ OwNetResult w9 (.agg cs_w0) r bw0_0 bw0_1 bw0_2 ∧ Rw 18 cs_w0 ∧ Blk w9 nz 61 cs_w0 ∧ w.heap.size ∉ (bw0_0 ++ (bw0_1 ++ bw0_2)) ∧ (w.heap.size + 1) ∉ (bw0_0 ++ (bw0_1 ++ bw0_2)) ∧ (∀ y ∈ (bw0_0 ++ (bw0_1 ++ bw0_2)), w.heap.size ≤ y) ∧ nz ∉ (bw0_0 ++ (bw0_1 ++ bw0_2)) := ⟨w2.heap.size, cs_w0, bw0_0, bw0_1, bw0_2, rfl, X0.off O9 (ne_one (nbx_X0)), X1.off O9 (ne_one (nbx_X1)), B.trans (O9.toBelow B.size (fun y hy => by rw [List.mem_singleton.1 hy]; exact gNB)), w0.off O9 (fun y hy hm => nbk_w0 (by have e := List.mem_singleton.1 hm; subst e; exact hy)), R_w0, Y9, nb_X0_w0, nb_X1_w0, G_w0, nbk_w0⟩
      go_wp2
      go_meet
      case rel => exact FIN
  case rest =>
    clear X0 X1 B 
    obtain ⟨nbw0, cs_w0, bw0_0, bw0_1, bw0_2, rfl, X0, X1, B, w0, R_w0, Yw0, nb_X0_w0, nb_X1_w0, G_w0, nb_Yw0_w0⟩ := hcut
    obtain ⟨wc12, ewc⟩ : ∃ x : World, x = wc := ⟨_, rfl⟩
    subst ewc
    go_wp2_with (first | (refine wpList_load_blkg (by rfl) 41 _ rfl w.heap.size rfl X0 Try.underlying41 rfl (RC0.hi (by kernel_rfl)) ?_) | (refine wpList_load_blkg (by rfl) 44 _ rfl (w.heap.size + 1) rfl X1 Try.underlying44 rfl (by kernel_rfl) ?_) | (refine wpList_load_blkg (by rfl) 61 _ rfl nbw0 rfl Yw0 Try.underlying61 rfl (R_w0.hi (by kernel_rfl)) ?_))
    refine (toTape_ow _ x0 _ (by exact r0.below B) (by omega)).mono ?_
    rintro e w13 ⟨u, bxc0_0, rfl, xc0, fxc0_0, hb13⟩
    obtain ⟨cs_xc0, e_xc0, R_xc0⟩ := xc0.row
    subst e_xc0
    have F_xc0 : ∀ y ∈ bxc0_0, wc12.heap.size ≤ y := fxc0_0
    (try have nbk_xc0 : _ ∉ bxc0_0 := fun hm => Nat.not_lt.2 (F_xc0 _ hm) NB.lt)
    have dj_w0_xc0 : Dj (bw0_0 ++ (bw0_1 ++ bw0_2)) bxc0_0 := fun y hy hm => Nat.not_lt.2 (F_xc0 y hm) (w0.lt y hy)
    have nb_X0_xc0 : w.heap.size ∉ bxc0_0 := fun hm => Nat.not_lt.2 (F_xc0 _ hm) X0.lt
    have nb_X1_xc0 : (w.heap.size + 1) ∉ bxc0_0 := fun hm => Nat.not_lt.2 (F_xc0 _ hm) X1.lt
    have nb_Yw0_xc0 : nbw0 ∉ bxc0_0 := fun hm => Nat.not_lt.2 (F_xc0 _ hm) Yw0.lt
    have G_xc0 : ∀ y ∈ bxc0_0, w.heap.size ≤ y := fun y hy => Nat.le_trans B.size (F_xc0 y hy)
    clear F_xc0
    replace X0 := X0.keep hb13
    replace X1 := X1.keep hb13
    replace Yw0 := Yw0.keep hb13
    replace w0 := w0.keep hb13
    replace B := B.trans (hb13.mono B.size)
    (try replace NB := NB.keep hb13)
    clear hb13 fxc0_0
    go_wp2_with (first | (refine wpList_store_blk rfl 51 _ _ rfl w13.heap.size cs_xc0 rfl rfl (Blk.new _ _ _) (by rw [R_xc0.1]; rfl) (R_xc0.hi (by kernel_rfl)) R_xc0.2 ?_; intro w14 Z0 o14; have nb_Z0_w0 : w13.heap.size ∉ (bw0_0 ++ (bw0_1 ++ bw0_2)) := (fun hm => Nat.lt_irrefl _ (w0.lt _ hm)); have nb_Z0_xc0 : w13.heap.size ∉ bxc0_0 := (fun hm => Nat.lt_irrefl _ (xc0.lt _ hm)); replace X0 := (X0.alloc _).off o14 (nbnew X0.lt); replace X1 := (X1.alloc _).off o14 (nbnew X1.lt); replace Yw0 := (Yw0.alloc _).off o14 (nbnew Yw0.lt); replace w0 := (w0.alloc _).off o14 (djnew w0.lt); replace xc0 := (xc0.alloc _).off o14 (djnew xc0.lt); replace B := below_past B o14; clear o14) | (refine wpList_load_blkg (by rfl) 41 _ rfl w.heap.size rfl X0 Try.underlying41 rfl (RC0.hi (by kernel_rfl)) ?_) | (refine wpList_load_blkg (by rfl) 44 _ rfl (w.heap.size + 1) rfl X1 Try.underlying44 rfl (by kernel_rfl) ?_) | (refine wpList_load_blkg (by rfl) 61 _ rfl nbw0 rfl Yw0 Try.underlying61 rfl (R_w0.hi (by kernel_rfl)) ?_) | (refine wpList_load_blkg (by rfl) 51 _ rfl w13.heap.size rfl Z0 Try.underlying51 rfl (R_xc0.hi (by kernel_rfl)) ?_))
    (try simp only [Act.put])
    go_cut [8] from 13 (fun s wr => ∃ nz cs_g0 bg0_0 bg0_1 bg0_2, s = .pointer (some ⟨nz, 0, none⟩) ∧ Blk wr w.heap.size 41 cs0 ∧ Blk wr (w.heap.size + 1) 44 #[.int .i64 x1.xWho, .int .i64 x1.xAt, .int .i64 x1.xBy, .bool x1.xCry] ∧ Blk wr nbw0 61 cs_w0 ∧ Blk wr w13.heap.size 51 cs_xc0 ∧ Below w.heap.size w wr ∧ OwNetResult wr (.agg cs_w0) r bw0_0 bw0_1 bw0_2 ∧ OwTape wr (.agg cs_xc0) x0 bxc0_0 ∧ OwNetResult wr (.agg cs_g0) r bg0_0 bg0_1 bg0_2 ∧ Rw 18 cs_g0 ∧ Blk wr nz 61 cs_g0 ∧ Dj (bw0_0 ++ (bw0_1 ++ bw0_2)) (bg0_0 ++ (bg0_1 ++ bg0_2)) ∧ Dj bxc0_0 (bg0_0 ++ (bg0_1 ++ bg0_2)) ∧ w.heap.size ∉ (bg0_0 ++ (bg0_1 ++ bg0_2)) ∧ (w.heap.size + 1) ∉ (bg0_0 ++ (bg0_1 ++ bg0_2)) ∧ nbw0 ∉ (bg0_0 ++ (bg0_1 ++ bg0_2)) ∧ w13.heap.size ∉ (bg0_0 ++ (bg0_1 ++ bg0_2)) ∧ (∀ y ∈ (bg0_0 ++ (bg0_1 ++ bg0_2)), w.heap.size ≤ y) ∧ nz ∉ (bw0_0 ++ (bw0_1 ++ bw0_2)) ∧ nz ∉ bxc0_0 ∧ nz ∉ (bg0_0 ++ (bg0_1 ++ bg0_2)))
    case first =>
      refine wp_region_held (S := fun V => Blk V w13.heap.size 51 cs_xc0 ∧ Blk V (w.heap.size + 1) 44 #[.int .i64 x1.xWho, .int .i64 x1.xAt, .int .i64 x1.xBy, .bool x1.xCry]) (by kernel_rfl) ?_
      try (change wpAnyH _ _ _ _ _ _ _ _ (World.drew _))
      have hS : (fun V => Blk V w13.heap.size 51 cs_xc0 ∧ Blk V (w.heap.size + 1) 44 #[.int .i64 x1.xWho, .int .i64 x1.xAt, .int .i64 x1.xBy, .bool x1.xCry]) _ := ⟨Z0.drew, X1.drew⟩
      replace X0 := X0.drew
      replace X1 := X1.drew
      replace Yw0 := Yw0.drew
      replace Z0 := Z0.drew
      replace w0 := w0.drew
      replace xc0 := xc0.drew
      replace B := B.drew
      refine wpAnyH_take (i := 0) (v := _) rfl (by kernel_rfl) (by kernel_rfl) (by kernel_rfl) (fun _ _ _ h => h) (yieldsIf_load_mid (by rfl) _ _ rfl _ _ rfl _ _ (fun _ h => h.1.range) Try.underlying51 rfl (by simpa using (R_xc0.hi (by kernel_rfl)))) hS ?_
      (try simp only [List.getElem_toArray]); (try simp only [List.getElem_cons_succ]); (try simp only [List.getElem_cons_zero]); (try simp only [Act.put]); (try simp only [List.setIfInBounds_toArray]); (try simp only [List.set_cons_succ]); (try simp only [List.set_cons_zero])
      refine wpAnyH_take (i := 1) (v := _) rfl (by kernel_rfl) (by kernel_rfl) (by kernel_rfl) (fun _ _ _ h => h) (yieldsIf_load_mid (by rfl) _ _ rfl _ _ rfl _ _ (fun _ h => h.2.range) Try.underlying44 rfl (by kernel_rfl)) hS ?_
      (try simp only [List.getElem_toArray]); (try simp only [List.getElem_cons_succ]); (try simp only [List.getElem_cons_zero]); (try simp only [Act.put]); (try simp only [List.setIfInBounds_toArray]); (try simp only [List.set_cons_succ]); (try simp only [List.set_cons_zero])
      refine wpAnyH_ready (rs := [2, 4]) (by kernel_rfl) (by simp) ?_
      refine AllReadyH.cons (o := _) rfl (fun K hK => ?_) (AllReadyH.cons (o := _) rfl (fun K hK => ?_) AllReadyH.nil)
      · rw [if_pos (by rfl)]
        go_simp
        go_at_call 30
        refine (toCheat_ow _ x1 _ (by exact rfl)).mono ?_
        rintro e w15 ⟨rfl, hb15⟩
        (try replace NB := NB.keep hb15)
        replace X0 := X0.keep hb15
        replace X1 := X1.keep hb15
        replace Yw0 := Yw0.keep hb15
        replace Z0 := Z0.keep hb15
        replace w0 := w0.keep hb15
        replace xc0 := xc0.keep hb15
        replace B := B.trans (hb15.mono B.size)
        clear hb15
        (try dsimp only)
        refine hK.out _ _ ⟨Z0, X1⟩ (fun hS => ?_)
        clear hK K
        (try simp only [List.getElem_toArray]); (try simp only [List.getElem_cons_succ]); (try simp only [List.getElem_cons_zero]); (try simp only [Act.put]); (try simp only [List.setIfInBounds_toArray]); (try simp only [List.set_cons_succ]); (try simp only [List.set_cons_zero])
        refine wpAnyH_ready (rs := [3, 4]) (by kernel_rfl) (by simp) ?_
        refine AllReadyH.cons (o := _) rfl (fun K hK => ?_) (AllReadyH.cons (o := _) rfl (fun K hK => ?_) AllReadyH.nil)
        · rw [if_pos (by rfl)]
          go_simp
          go_at_call 31
          refine (HI.out _ _ _ (by exact xc0.rd) (by exact rfl)).mono ?_
          rintro e w16 ⟨u, bg0_0, bg0_1, bg0_2, rfl, g0, fg0_0, fg0_1, fg0_2, hb16⟩
          obtain ⟨cs_g0, e_g0, R_g0⟩ := g0.row
          subst e_g0
          have F_g0 : ∀ y ∈ (bg0_0 ++ (bg0_1 ++ bg0_2)), w15.heap.size ≤ y := all_app fg0_0 (all_app fg0_1 fg0_2)
          (try have nbk_g0 : _ ∉ (bg0_0 ++ (bg0_1 ++ bg0_2)) := fun hm => Nat.not_lt.2 (F_g0 _ hm) NB.lt)
          have dj_w0_g0 : Dj (bw0_0 ++ (bw0_1 ++ bw0_2)) (bg0_0 ++ (bg0_1 ++ bg0_2)) := fun y hy hm => Nat.not_lt.2 (F_g0 y hm) (w0.lt y hy)
          have dj_xc0_g0 : Dj bxc0_0 (bg0_0 ++ (bg0_1 ++ bg0_2)) := fun y hy hm => Nat.not_lt.2 (F_g0 y hm) (xc0.lt y hy)
          have nb_X0_g0 : w.heap.size ∉ (bg0_0 ++ (bg0_1 ++ bg0_2)) := fun hm => Nat.not_lt.2 (F_g0 _ hm) X0.lt
          have nb_X1_g0 : (w.heap.size + 1) ∉ (bg0_0 ++ (bg0_1 ++ bg0_2)) := fun hm => Nat.not_lt.2 (F_g0 _ hm) X1.lt
          have nb_Yw0_g0 : nbw0 ∉ (bg0_0 ++ (bg0_1 ++ bg0_2)) := fun hm => Nat.not_lt.2 (F_g0 _ hm) Yw0.lt
          have nb_Z0_g0 : w13.heap.size ∉ (bg0_0 ++ (bg0_1 ++ bg0_2)) := fun hm => Nat.not_lt.2 (F_g0 _ hm) Z0.lt
          have G_g0 : ∀ y ∈ (bg0_0 ++ (bg0_1 ++ bg0_2)), w.heap.size ≤ y := fun y hy => Nat.le_trans B.size (F_g0 y hy)
          clear F_g0
          (try replace NB := NB.keep hb16)
          replace X0 := X0.keep hb16
          replace X1 := X1.keep hb16
          replace Yw0 := Yw0.keep hb16
          replace Z0 := Z0.keep hb16
          replace w0 := w0.keep hb16
          replace xc0 := xc0.keep hb16
          replace B := B.trans (hb16.mono B.size)
          clear hb16 fg0_0 fg0_1 fg0_2
          (try dsimp only)
          refine hK.out _ _ ⟨Z0, X1⟩ (fun hS => ?_)
          clear hK K
          (try simp only [List.getElem_toArray]); (try simp only [List.getElem_cons_succ]); (try simp only [List.getElem_cons_zero]); (try simp only [Act.put]); (try simp only [List.setIfInBounds_toArray]); (try simp only [List.set_cons_succ]); (try simp only [List.set_cons_zero])
          refine wpAnyH_ready (rs := [4]) (by kernel_rfl) (by simp) ?_
          refine AllReadyH.cons (o := _) rfl (fun K hK => ?_) AllReadyH.nil
          rw [if_pos (by rfl)]
          go_simp
          have nbx_X0 : w.heap.size ≠ w16.heap.size := Nat.ne_of_lt X0.lt
          have nbx_X1 : (w.heap.size + 1) ≠ w16.heap.size := Nat.ne_of_lt X1.lt
          have nbx_Yw0 : nbw0 ≠ w16.heap.size := Nat.ne_of_lt Yw0.lt
          have nbx_Z0 : w13.heap.size ≠ w16.heap.size := Nat.ne_of_lt Z0.lt
          have nbk_w0 : w16.heap.size ∉ (bw0_0 ++ (bw0_1 ++ bw0_2)) := fun hm => Nat.lt_irrefl _ (w0.lt _ hm)
          have nbk_xc0 : w16.heap.size ∉ bxc0_0 := fun hm => Nat.lt_irrefl _ (xc0.lt _ hm)
          have nbk_g0 : w16.heap.size ∉ (bg0_0 ++ (bg0_1 ++ bg0_2)) := fun hm => Nat.lt_irrefl _ (g0.lt _ hm)
          replace X0 := X0.alloc (.cells #[.int .i64 0, .int .i64 0, .slice none 0 0, .slice none 0 0, .int .i64 0, .slice none 0 0, .int .i64 0, .int .i64 0, .int .i64 0, .bool false, .bool false, .int .i64 0, .int .i64 0, .int .i64 0, .int .i64 0, .int .i64 0, .int .i64 0, .int .i64 0] 61)
          replace X1 := X1.alloc (.cells #[.int .i64 0, .int .i64 0, .slice none 0 0, .slice none 0 0, .int .i64 0, .slice none 0 0, .int .i64 0, .int .i64 0, .int .i64 0, .bool false, .bool false, .int .i64 0, .int .i64 0, .int .i64 0, .int .i64 0, .int .i64 0, .int .i64 0, .int .i64 0] 61)
          replace Yw0 := Yw0.alloc (.cells #[.int .i64 0, .int .i64 0, .slice none 0 0, .slice none 0 0, .int .i64 0, .slice none 0 0, .int .i64 0, .int .i64 0, .int .i64 0, .bool false, .bool false, .int .i64 0, .int .i64 0, .int .i64 0, .int .i64 0, .int .i64 0, .int .i64 0, .int .i64 0] 61)
          replace Z0 := Z0.alloc (.cells #[.int .i64 0, .int .i64 0, .slice none 0 0, .slice none 0 0, .int .i64 0, .slice none 0 0, .int .i64 0, .int .i64 0, .int .i64 0, .bool false, .bool false, .int .i64 0, .int .i64 0, .int .i64 0, .int .i64 0, .int .i64 0, .int .i64 0, .int .i64 0] 61)
          replace w0 := w0.alloc (.cells #[.int .i64 0, .int .i64 0, .slice none 0 0, .slice none 0 0, .int .i64 0, .slice none 0 0, .int .i64 0, .int .i64 0, .int .i64 0, .bool false, .bool false, .int .i64 0, .int .i64 0, .int .i64 0, .int .i64 0, .int .i64 0, .int .i64 0, .int .i64 0] 61)
          replace xc0 := xc0.alloc (.cells #[.int .i64 0, .int .i64 0, .slice none 0 0, .slice none 0 0, .int .i64 0, .slice none 0 0, .int .i64 0, .int .i64 0, .int .i64 0, .bool false, .bool false, .int .i64 0, .int .i64 0, .int .i64 0, .int .i64 0, .int .i64 0, .int .i64 0, .int .i64 0] 61)
          replace g0 := g0.alloc (.cells #[.int .i64 0, .int .i64 0, .slice none 0 0, .slice none 0 0, .int .i64 0, .slice none 0 0, .int .i64 0, .int .i64 0, .int .i64 0, .bool false, .bool false, .int .i64 0, .int .i64 0, .int .i64 0, .int .i64 0, .int .i64 0, .int .i64 0, .int .i64 0] 61)
          have NB := Blk.new w16 61 #[.int .i64 0, .int .i64 0, .slice none 0 0, .slice none 0 0, .int .i64 0, .slice none 0 0, .int .i64 0, .int .i64 0, .int .i64 0, .bool false, .bool false, .int .i64 0, .int .i64 0, .int .i64 0, .int .i64 0, .int .i64 0, .int .i64 0, .int .i64 0]
          have gNB : w.heap.size ≤ w16.heap.size := B.size
          replace B := B.alloc B.size (.cells #[.int .i64 0, .int .i64 0, .slice none 0 0, .slice none 0 0, .int .i64 0, .slice none 0 0, .int .i64 0, .int .i64 0, .int .i64 0, .bool false, .bool false, .int .i64 0, .int .i64 0, .int .i64 0, .int .i64 0, .int .i64 0, .int .i64 0, .int .i64 0] 61)
          refine hK.out _ _ ⟨Z0, X1⟩ (fun hS => ?_)
          clear hK K
          (try simp only [List.getElem_toArray]); (try simp only [List.getElem_cons_succ]); (try simp only [List.getElem_cons_zero]); (try simp only [Act.put]); (try simp only [List.setIfInBounds_toArray]); (try simp only [List.set_cons_succ]); (try simp only [List.set_cons_zero])
          refine wpAnyH_ready (rs := [5]) (by kernel_rfl) (by simp) ?_
          refine AllReadyH.cons (o := _) rfl (fun K hK => ?_) AllReadyH.nil
          refine step_store_blk rfl 61 _ _ rfl w16.heap.size cs_g0 rfl rfl NB (by rw [R_g0.1]; rfl) (R_g0.hi (by kernel_rfl)) R_g0.2 ?_
          intro w9 Y9 O9
          refine hK.out _ _ ⟨(Z0.off O9 (ne_one (nbx_Z0))), (X1.off O9 (ne_one (nbx_X1)))⟩ (fun hS => ?_)
          clear hK K
          (try simp only [List.getElem_toArray]); (try simp only [List.getElem_cons_succ]); (try simp only [List.getElem_cons_zero]); (try simp only [Act.put]); (try simp only [List.setIfInBounds_toArray]); (try simp only [List.set_cons_succ]); (try simp only [List.set_cons_zero])
          refine wpAnyH_done (by kernel_rfl) ?_ _
          have FIN : ∃ nz cs_g0 bg0_0 bg0_1 bg0_2, (Value.pointer (some ⟨w16.heap.size, 0, none⟩)) = .pointer (some ⟨nz, 0, none⟩) ∧ Blk w9 w.heap.size 41 cs0 ∧ Blk w9 (w.heap.size + 1) 44 #[.int .i64 x1.xWho, .int .i64 x1.xAt, .int .i64 x1.xBy, .bool x1.xCry] ∧ Blk w9 nbw0 61 cs_w0 ∧ Blk w9 w13.heap.size 51 cs_xc0 ∧ Below w.heap.size w w9 ∧ OwNetResult w9 (.agg cs_w0) r bw0_0 bw0_1 bw0_2 ∧ OwTape w9 (.agg cs_xc0) x0 bxc0_0 ∧ OwNetResult w9 (.agg cs_g0) r bg0_0 bg0_1 bg0_2 ∧ Rw 18 cs_g0 ∧ Blk w9 nz 61 cs_g0 ∧ Dj (bw0_0 ++ (bw0_1 ++ bw0_2)) (bg0_0 ++ (bg0_1 ++ bg0_2)) ∧ Dj bxc0_0 (bg0_0 ++ (bg0_1 ++ bg0_2)) ∧ w.heap.size ∉ (bg0_0 ++ (bg0_1 ++ bg0_2)) ∧ (w.heap.size + 1) ∉ (bg0_0 ++ (bg0_1 ++ bg0_2)) ∧ nbw0 ∉ (bg0_0 ++ (bg0_1 ++ bg0_2)) ∧ w13.heap.size ∉ (bg0_0 ++ (bg0_1 ++ bg0_2)) ∧ (∀ y ∈ (bg0_0 ++ (bg0_1 ++ bg0_2)), w.heap.size ≤ y) ∧ nz ∉ (bw0_0 ++ (bw0_1 ++ bw0_2)) ∧ nz ∉ bxc0_0 ∧ nz ∉ (bg0_0 ++ (bg0_1 ++ bg0_2)) := ⟨w16.heap.size, cs_g0, bg0_0, bg0_1, bg0_2, rfl, X0.off O9 (ne_one (nbx_X0)), X1.off O9 (ne_one (nbx_X1)), Yw0.off O9 (ne_one (nbx_Yw0)), Z0.off O9 (ne_one (nbx_Z0)), B.trans (O9.toBelow B.size (fun y hy => by rw [List.mem_singleton.1 hy]; exact gNB)), w0.off O9 (fun y hy hm => nbk_w0 (by have e := List.mem_singleton.1 hm; subst e; exact hy)), xc0.off O9 (fun y hy hm => nbk_xc0 (by have e := List.mem_singleton.1 hm; subst e; exact hy)), g0.off O9 (fun y hy hm => nbk_g0 (by have e := List.mem_singleton.1 hm; subst e; exact hy)), R_g0, Y9, dj_w0_g0, dj_xc0_g0, nb_X0_g0, nb_X1_g0, nb_Yw0_g0, nb_Z0_g0, G_g0, nbk_w0, nbk_xc0, nbk_g0⟩
          go_wp2
          go_meet
          case rel => exact FIN
        · rw [if_pos (by rfl)]
          go_simp
          have nbx_X0 : w.heap.size ≠ w15.heap.size := Nat.ne_of_lt X0.lt
          have nbx_X1 : (w.heap.size + 1) ≠ w15.heap.size := Nat.ne_of_lt X1.lt
          have nbx_Yw0 : nbw0 ≠ w15.heap.size := Nat.ne_of_lt Yw0.lt
          have nbx_Z0 : w13.heap.size ≠ w15.heap.size := Nat.ne_of_lt Z0.lt
          have nbk_w0 : w15.heap.size ∉ (bw0_0 ++ (bw0_1 ++ bw0_2)) := fun hm => Nat.lt_irrefl _ (w0.lt _ hm)
          have nbk_xc0 : w15.heap.size ∉ bxc0_0 := fun hm => Nat.lt_irrefl _ (xc0.lt _ hm)
          replace X0 := X0.alloc (.cells #[.int .i64 0, .int .i64 0, .slice none 0 0, .slice none 0 0, .int .i64 0, .slice none 0 0, .int .i64 0, .int .i64 0, .int .i64 0, .bool false, .bool false, .int .i64 0, .int .i64 0, .int .i64 0, .int .i64 0, .int .i64 0, .int .i64 0, .int .i64 0] 61)
          replace X1 := X1.alloc (.cells #[.int .i64 0, .int .i64 0, .slice none 0 0, .slice none 0 0, .int .i64 0, .slice none 0 0, .int .i64 0, .int .i64 0, .int .i64 0, .bool false, .bool false, .int .i64 0, .int .i64 0, .int .i64 0, .int .i64 0, .int .i64 0, .int .i64 0, .int .i64 0] 61)
          replace Yw0 := Yw0.alloc (.cells #[.int .i64 0, .int .i64 0, .slice none 0 0, .slice none 0 0, .int .i64 0, .slice none 0 0, .int .i64 0, .int .i64 0, .int .i64 0, .bool false, .bool false, .int .i64 0, .int .i64 0, .int .i64 0, .int .i64 0, .int .i64 0, .int .i64 0, .int .i64 0] 61)
          replace Z0 := Z0.alloc (.cells #[.int .i64 0, .int .i64 0, .slice none 0 0, .slice none 0 0, .int .i64 0, .slice none 0 0, .int .i64 0, .int .i64 0, .int .i64 0, .bool false, .bool false, .int .i64 0, .int .i64 0, .int .i64 0, .int .i64 0, .int .i64 0, .int .i64 0, .int .i64 0] 61)
          replace w0 := w0.alloc (.cells #[.int .i64 0, .int .i64 0, .slice none 0 0, .slice none 0 0, .int .i64 0, .slice none 0 0, .int .i64 0, .int .i64 0, .int .i64 0, .bool false, .bool false, .int .i64 0, .int .i64 0, .int .i64 0, .int .i64 0, .int .i64 0, .int .i64 0, .int .i64 0] 61)
          replace xc0 := xc0.alloc (.cells #[.int .i64 0, .int .i64 0, .slice none 0 0, .slice none 0 0, .int .i64 0, .slice none 0 0, .int .i64 0, .int .i64 0, .int .i64 0, .bool false, .bool false, .int .i64 0, .int .i64 0, .int .i64 0, .int .i64 0, .int .i64 0, .int .i64 0, .int .i64 0] 61)
          have NB := Blk.new w15 61 #[.int .i64 0, .int .i64 0, .slice none 0 0, .slice none 0 0, .int .i64 0, .slice none 0 0, .int .i64 0, .int .i64 0, .int .i64 0, .bool false, .bool false, .int .i64 0, .int .i64 0, .int .i64 0, .int .i64 0, .int .i64 0, .int .i64 0, .int .i64 0]
          have gNB : w.heap.size ≤ w15.heap.size := B.size
          replace B := B.alloc B.size (.cells #[.int .i64 0, .int .i64 0, .slice none 0 0, .slice none 0 0, .int .i64 0, .slice none 0 0, .int .i64 0, .int .i64 0, .int .i64 0, .bool false, .bool false, .int .i64 0, .int .i64 0, .int .i64 0, .int .i64 0, .int .i64 0, .int .i64 0, .int .i64 0] 61)
          refine hK.out _ _ ⟨Z0, X1⟩ (fun hS => ?_)
          clear hK K
          (try simp only [List.getElem_toArray]); (try simp only [List.getElem_cons_succ]); (try simp only [List.getElem_cons_zero]); (try simp only [Act.put]); (try simp only [List.setIfInBounds_toArray]); (try simp only [List.set_cons_succ]); (try simp only [List.set_cons_zero])
          refine wpAnyH_ready (rs := [3]) (by kernel_rfl) (by simp) ?_
          refine AllReadyH.cons (o := _) rfl (fun K hK => ?_) AllReadyH.nil
          rw [if_pos (by rfl)]
          go_simp
          go_at_call 31
          refine (HI.out _ _ _ (by exact xc0.rd) (by exact rfl)).mono ?_
          rintro e w17 ⟨u, bg0_0, bg0_1, bg0_2, rfl, g0, fg0_0, fg0_1, fg0_2, hb17⟩
          obtain ⟨cs_g0, e_g0, R_g0⟩ := g0.row
          subst e_g0
          have F_g0 : ∀ y ∈ (bg0_0 ++ (bg0_1 ++ bg0_2)), (w15.alloc (.cells #[.int .i64 0, .int .i64 0, .slice none 0 0, .slice none 0 0, .int .i64 0, .slice none 0 0, .int .i64 0, .int .i64 0, .int .i64 0, .bool false, .bool false, .int .i64 0, .int .i64 0, .int .i64 0, .int .i64 0, .int .i64 0, .int .i64 0, .int .i64 0] 61)).heap.size ≤ y := all_app fg0_0 (all_app fg0_1 fg0_2)
          (try have nbk_g0 : _ ∉ (bg0_0 ++ (bg0_1 ++ bg0_2)) := fun hm => Nat.not_lt.2 (F_g0 _ hm) NB.lt)
          have dj_w0_g0 : Dj (bw0_0 ++ (bw0_1 ++ bw0_2)) (bg0_0 ++ (bg0_1 ++ bg0_2)) := fun y hy hm => Nat.not_lt.2 (F_g0 y hm) (w0.lt y hy)
          have dj_xc0_g0 : Dj bxc0_0 (bg0_0 ++ (bg0_1 ++ bg0_2)) := fun y hy hm => Nat.not_lt.2 (F_g0 y hm) (xc0.lt y hy)
          have nb_X0_g0 : w.heap.size ∉ (bg0_0 ++ (bg0_1 ++ bg0_2)) := fun hm => Nat.not_lt.2 (F_g0 _ hm) X0.lt
          have nb_X1_g0 : (w.heap.size + 1) ∉ (bg0_0 ++ (bg0_1 ++ bg0_2)) := fun hm => Nat.not_lt.2 (F_g0 _ hm) X1.lt
          have nb_Yw0_g0 : nbw0 ∉ (bg0_0 ++ (bg0_1 ++ bg0_2)) := fun hm => Nat.not_lt.2 (F_g0 _ hm) Yw0.lt
          have nb_Z0_g0 : w13.heap.size ∉ (bg0_0 ++ (bg0_1 ++ bg0_2)) := fun hm => Nat.not_lt.2 (F_g0 _ hm) Z0.lt
          have G_g0 : ∀ y ∈ (bg0_0 ++ (bg0_1 ++ bg0_2)), w.heap.size ≤ y := fun y hy => Nat.le_trans B.size (F_g0 y hy)
          clear F_g0
          (try replace NB := NB.keep hb17)
          replace X0 := X0.keep hb17
          replace X1 := X1.keep hb17
          replace Yw0 := Yw0.keep hb17
          replace Z0 := Z0.keep hb17
          replace w0 := w0.keep hb17
          replace xc0 := xc0.keep hb17
          replace B := B.trans (hb17.mono B.size)
          clear hb17 fg0_0 fg0_1 fg0_2
          (try dsimp only)
          refine hK.out _ _ ⟨Z0, X1⟩ (fun hS => ?_)
          clear hK K
          (try simp only [List.getElem_toArray]); (try simp only [List.getElem_cons_succ]); (try simp only [List.getElem_cons_zero]); (try simp only [Act.put]); (try simp only [List.setIfInBounds_toArray]); (try simp only [List.set_cons_succ]); (try simp only [List.set_cons_zero])
          refine wpAnyH_ready (rs := [5]) (by kernel_rfl) (by simp) ?_
          refine AllReadyH.cons (o := _) rfl (fun K hK => ?_) AllReadyH.nil
          refine step_store_blk rfl 61 _ _ rfl w15.heap.size cs_g0 rfl rfl NB (by rw [R_g0.1]; rfl) (R_g0.hi (by kernel_rfl)) R_g0.2 ?_
          intro w9 Y9 O9
          refine hK.out _ _ ⟨(Z0.off O9 (ne_one (nbx_Z0))), (X1.off O9 (ne_one (nbx_X1)))⟩ (fun hS => ?_)
          clear hK K
          (try simp only [List.getElem_toArray]); (try simp only [List.getElem_cons_succ]); (try simp only [List.getElem_cons_zero]); (try simp only [Act.put]); (try simp only [List.setIfInBounds_toArray]); (try simp only [List.set_cons_succ]); (try simp only [List.set_cons_zero])
          refine wpAnyH_done (by kernel_rfl) ?_ _
          have FIN : ∃ nz cs_g0 bg0_0 bg0_1 bg0_2, (Value.pointer (some ⟨w15.heap.size, 0, none⟩)) = .pointer (some ⟨nz, 0, none⟩) ∧ Blk w9 w.heap.size 41 cs0 ∧ Blk w9 (w.heap.size + 1) 44 #[.int .i64 x1.xWho, .int .i64 x1.xAt, .int .i64 x1.xBy, .bool x1.xCry] ∧ Blk w9 nbw0 61 cs_w0 ∧ Blk w9 w13.heap.size 51 cs_xc0 ∧ Below w.heap.size w w9 ∧ OwNetResult w9 (.agg cs_w0) r bw0_0 bw0_1 bw0_2 ∧ OwTape w9 (.agg cs_xc0) x0 bxc0_0 ∧ OwNetResult w9 (.agg cs_g0) r bg0_0 bg0_1 bg0_2 ∧ Rw 18 cs_g0 ∧ Blk w9 nz 61 cs_g0 ∧ Dj (bw0_0 ++ (bw0_1 ++ bw0_2)) (bg0_0 ++ (bg0_1 ++ bg0_2)) ∧ Dj bxc0_0 (bg0_0 ++ (bg0_1 ++ bg0_2)) ∧ w.heap.size ∉ (bg0_0 ++ (bg0_1 ++ bg0_2)) ∧ (w.heap.size + 1) ∉ (bg0_0 ++ (bg0_1 ++ bg0_2)) ∧ nbw0 ∉ (bg0_0 ++ (bg0_1 ++ bg0_2)) ∧ w13.heap.size ∉ (bg0_0 ++ (bg0_1 ++ bg0_2)) ∧ (∀ y ∈ (bg0_0 ++ (bg0_1 ++ bg0_2)), w.heap.size ≤ y) ∧ nz ∉ (bw0_0 ++ (bw0_1 ++ bw0_2)) ∧ nz ∉ bxc0_0 ∧ nz ∉ (bg0_0 ++ (bg0_1 ++ bg0_2)) := ⟨w15.heap.size, cs_g0, bg0_0, bg0_1, bg0_2, rfl, X0.off O9 (ne_one (nbx_X0)), X1.off O9 (ne_one (nbx_X1)), Yw0.off O9 (ne_one (nbx_Yw0)), Z0.off O9 (ne_one (nbx_Z0)), B.trans (O9.toBelow B.size (fun y hy => by rw [List.mem_singleton.1 hy]; exact gNB)), w0.off O9 (fun y hy hm => nbk_w0 (by have e := List.mem_singleton.1 hm; subst e; exact hy)), xc0.off O9 (fun y hy hm => nbk_xc0 (by have e := List.mem_singleton.1 hm; subst e; exact hy)), g0.off O9 (fun y hy hm => nbk_g0 (by have e := List.mem_singleton.1 hm; subst e; exact hy)), R_g0, Y9, dj_w0_g0, dj_xc0_g0, nb_X0_g0, nb_X1_g0, nb_Yw0_g0, nb_Z0_g0, G_g0, nbk_w0, nbk_xc0, nbk_g0⟩
          go_wp2
          go_meet
          case rel => exact FIN
      · rw [if_pos (by rfl)]
        go_simp
        have nbx_X0 : w.heap.size ≠ w14.heap.size := Nat.ne_of_lt X0.lt
        have nbx_X1 : (w.heap.size + 1) ≠ w14.heap.size := Nat.ne_of_lt X1.lt
        have nbx_Yw0 : nbw0 ≠ w14.heap.size := Nat.ne_of_lt Yw0.lt
        have nbx_Z0 : w13.heap.size ≠ w14.heap.size := Nat.ne_of_lt Z0.lt
        have nbk_w0 : w14.heap.size ∉ (bw0_0 ++ (bw0_1 ++ bw0_2)) := fun hm => Nat.lt_irrefl _ (w0.lt _ hm)
        have nbk_xc0 : w14.heap.size ∉ bxc0_0 := fun hm => Nat.lt_irrefl _ (xc0.lt _ hm)
        replace X0 := X0.alloc (.cells #[.int .i64 0, .int .i64 0, .slice none 0 0, .slice none 0 0, .int .i64 0, .slice none 0 0, .int .i64 0, .int .i64 0, .int .i64 0, .bool false, .bool false, .int .i64 0, .int .i64 0, .int .i64 0, .int .i64 0, .int .i64 0, .int .i64 0, .int .i64 0] 61)
        replace X1 := X1.alloc (.cells #[.int .i64 0, .int .i64 0, .slice none 0 0, .slice none 0 0, .int .i64 0, .slice none 0 0, .int .i64 0, .int .i64 0, .int .i64 0, .bool false, .bool false, .int .i64 0, .int .i64 0, .int .i64 0, .int .i64 0, .int .i64 0, .int .i64 0, .int .i64 0] 61)
        replace Yw0 := Yw0.alloc (.cells #[.int .i64 0, .int .i64 0, .slice none 0 0, .slice none 0 0, .int .i64 0, .slice none 0 0, .int .i64 0, .int .i64 0, .int .i64 0, .bool false, .bool false, .int .i64 0, .int .i64 0, .int .i64 0, .int .i64 0, .int .i64 0, .int .i64 0, .int .i64 0] 61)
        replace Z0 := Z0.alloc (.cells #[.int .i64 0, .int .i64 0, .slice none 0 0, .slice none 0 0, .int .i64 0, .slice none 0 0, .int .i64 0, .int .i64 0, .int .i64 0, .bool false, .bool false, .int .i64 0, .int .i64 0, .int .i64 0, .int .i64 0, .int .i64 0, .int .i64 0, .int .i64 0] 61)
        replace w0 := w0.alloc (.cells #[.int .i64 0, .int .i64 0, .slice none 0 0, .slice none 0 0, .int .i64 0, .slice none 0 0, .int .i64 0, .int .i64 0, .int .i64 0, .bool false, .bool false, .int .i64 0, .int .i64 0, .int .i64 0, .int .i64 0, .int .i64 0, .int .i64 0, .int .i64 0] 61)
        replace xc0 := xc0.alloc (.cells #[.int .i64 0, .int .i64 0, .slice none 0 0, .slice none 0 0, .int .i64 0, .slice none 0 0, .int .i64 0, .int .i64 0, .int .i64 0, .bool false, .bool false, .int .i64 0, .int .i64 0, .int .i64 0, .int .i64 0, .int .i64 0, .int .i64 0, .int .i64 0] 61)
        have NB := Blk.new w14.drew 61 #[.int .i64 0, .int .i64 0, .slice none 0 0, .slice none 0 0, .int .i64 0, .slice none 0 0, .int .i64 0, .int .i64 0, .int .i64 0, .bool false, .bool false, .int .i64 0, .int .i64 0, .int .i64 0, .int .i64 0, .int .i64 0, .int .i64 0, .int .i64 0]
        have gNB : w.heap.size ≤ w14.heap.size := B.size
        replace B := B.alloc B.size (.cells #[.int .i64 0, .int .i64 0, .slice none 0 0, .slice none 0 0, .int .i64 0, .slice none 0 0, .int .i64 0, .int .i64 0, .int .i64 0, .bool false, .bool false, .int .i64 0, .int .i64 0, .int .i64 0, .int .i64 0, .int .i64 0, .int .i64 0, .int .i64 0] 61)
        refine hK.out _ _ ⟨Z0, X1⟩ (fun hS => ?_)
        clear hK K
        (try simp only [List.getElem_toArray]); (try simp only [List.getElem_cons_succ]); (try simp only [List.getElem_cons_zero]); (try simp only [Act.put]); (try simp only [List.setIfInBounds_toArray]); (try simp only [List.set_cons_succ]); (try simp only [List.set_cons_zero])
        refine wpAnyH_ready (rs := [2]) (by kernel_rfl) (by simp) ?_
        refine AllReadyH.cons (o := _) rfl (fun K hK => ?_) AllReadyH.nil
        rw [if_pos (by rfl)]
        go_simp
        go_at_call 30
        refine (toCheat_ow _ x1 _ (by exact rfl)).mono ?_
        rintro e w18 ⟨rfl, hb18⟩
        (try replace NB := NB.keep hb18)
        replace X0 := X0.keep hb18
        replace X1 := X1.keep hb18
        replace Yw0 := Yw0.keep hb18
        replace Z0 := Z0.keep hb18
        replace w0 := w0.keep hb18
        replace xc0 := xc0.keep hb18
        replace B := B.trans (hb18.mono B.size)
        clear hb18
        (try dsimp only)
        refine hK.out _ _ ⟨Z0, X1⟩ (fun hS => ?_)
        clear hK K
        (try simp only [List.getElem_toArray]); (try simp only [List.getElem_cons_succ]); (try simp only [List.getElem_cons_zero]); (try simp only [Act.put]); (try simp only [List.setIfInBounds_toArray]); (try simp only [List.set_cons_succ]); (try simp only [List.set_cons_zero])
        refine wpAnyH_ready (rs := [3]) (by kernel_rfl) (by simp) ?_
        refine AllReadyH.cons (o := _) rfl (fun K hK => ?_) AllReadyH.nil
        rw [if_pos (by rfl)]
        go_simp
        go_at_call 31
        refine (HI.out _ _ _ (by exact xc0.rd) (by exact rfl)).mono ?_
        rintro e w19 ⟨u, bg0_0, bg0_1, bg0_2, rfl, g0, fg0_0, fg0_1, fg0_2, hb19⟩
        obtain ⟨cs_g0, e_g0, R_g0⟩ := g0.row
        subst e_g0
        have F_g0 : ∀ y ∈ (bg0_0 ++ (bg0_1 ++ bg0_2)), w18.heap.size ≤ y := all_app fg0_0 (all_app fg0_1 fg0_2)
        (try have nbk_g0 : _ ∉ (bg0_0 ++ (bg0_1 ++ bg0_2)) := fun hm => Nat.not_lt.2 (F_g0 _ hm) NB.lt)
        have dj_w0_g0 : Dj (bw0_0 ++ (bw0_1 ++ bw0_2)) (bg0_0 ++ (bg0_1 ++ bg0_2)) := fun y hy hm => Nat.not_lt.2 (F_g0 y hm) (w0.lt y hy)
        have dj_xc0_g0 : Dj bxc0_0 (bg0_0 ++ (bg0_1 ++ bg0_2)) := fun y hy hm => Nat.not_lt.2 (F_g0 y hm) (xc0.lt y hy)
        have nb_X0_g0 : w.heap.size ∉ (bg0_0 ++ (bg0_1 ++ bg0_2)) := fun hm => Nat.not_lt.2 (F_g0 _ hm) X0.lt
        have nb_X1_g0 : (w.heap.size + 1) ∉ (bg0_0 ++ (bg0_1 ++ bg0_2)) := fun hm => Nat.not_lt.2 (F_g0 _ hm) X1.lt
        have nb_Yw0_g0 : nbw0 ∉ (bg0_0 ++ (bg0_1 ++ bg0_2)) := fun hm => Nat.not_lt.2 (F_g0 _ hm) Yw0.lt
        have nb_Z0_g0 : w13.heap.size ∉ (bg0_0 ++ (bg0_1 ++ bg0_2)) := fun hm => Nat.not_lt.2 (F_g0 _ hm) Z0.lt
        have G_g0 : ∀ y ∈ (bg0_0 ++ (bg0_1 ++ bg0_2)), w.heap.size ≤ y := fun y hy => Nat.le_trans B.size (F_g0 y hy)
        clear F_g0
        (try replace NB := NB.keep hb19)
        replace X0 := X0.keep hb19
        replace X1 := X1.keep hb19
        replace Yw0 := Yw0.keep hb19
        replace Z0 := Z0.keep hb19
        replace w0 := w0.keep hb19
        replace xc0 := xc0.keep hb19
        replace B := B.trans (hb19.mono B.size)
        clear hb19 fg0_0 fg0_1 fg0_2
        (try dsimp only)
        refine hK.out _ _ ⟨Z0, X1⟩ (fun hS => ?_)
        clear hK K
        (try simp only [List.getElem_toArray]); (try simp only [List.getElem_cons_succ]); (try simp only [List.getElem_cons_zero]); (try simp only [Act.put]); (try simp only [List.setIfInBounds_toArray]); (try simp only [List.set_cons_succ]); (try simp only [List.set_cons_zero])
        refine wpAnyH_ready (rs := [5]) (by kernel_rfl) (by simp) ?_
        refine AllReadyH.cons (o := _) rfl (fun K hK => ?_) AllReadyH.nil
        refine step_store_blk rfl 61 _ _ rfl w14.heap.size cs_g0 rfl rfl NB (by rw [R_g0.1]; rfl) (R_g0.hi (by kernel_rfl)) R_g0.2 ?_
        intro w9 Y9 O9
        refine hK.out _ _ ⟨(Z0.off O9 (ne_one (nbx_Z0))), (X1.off O9 (ne_one (nbx_X1)))⟩ (fun hS => ?_)
        clear hK K
        (try simp only [List.getElem_toArray]); (try simp only [List.getElem_cons_succ]); (try simp only [List.getElem_cons_zero]); (try simp only [Act.put]); (try simp only [List.setIfInBounds_toArray]); (try simp only [List.set_cons_succ]); (try simp only [List.set_cons_zero])
        refine wpAnyH_done (by kernel_rfl) ?_ _
        have FIN : ∃ nz cs_g0 bg0_0 bg0_1 bg0_2, (Value.pointer (some ⟨w14.heap.size, 0, none⟩)) = .pointer (some ⟨nz, 0, none⟩) ∧ Blk w9 w.heap.size 41 cs0 ∧ Blk w9 (w.heap.size + 1) 44 #[.int .i64 x1.xWho, .int .i64 x1.xAt, .int .i64 x1.xBy, .bool x1.xCry] ∧ Blk w9 nbw0 61 cs_w0 ∧ Blk w9 w13.heap.size 51 cs_xc0 ∧ Below w.heap.size w w9 ∧ OwNetResult w9 (.agg cs_w0) r bw0_0 bw0_1 bw0_2 ∧ OwTape w9 (.agg cs_xc0) x0 bxc0_0 ∧ OwNetResult w9 (.agg cs_g0) r bg0_0 bg0_1 bg0_2 ∧ Rw 18 cs_g0 ∧ Blk w9 nz 61 cs_g0 ∧ Dj (bw0_0 ++ (bw0_1 ++ bw0_2)) (bg0_0 ++ (bg0_1 ++ bg0_2)) ∧ Dj bxc0_0 (bg0_0 ++ (bg0_1 ++ bg0_2)) ∧ w.heap.size ∉ (bg0_0 ++ (bg0_1 ++ bg0_2)) ∧ (w.heap.size + 1) ∉ (bg0_0 ++ (bg0_1 ++ bg0_2)) ∧ nbw0 ∉ (bg0_0 ++ (bg0_1 ++ bg0_2)) ∧ w13.heap.size ∉ (bg0_0 ++ (bg0_1 ++ bg0_2)) ∧ (∀ y ∈ (bg0_0 ++ (bg0_1 ++ bg0_2)), w.heap.size ≤ y) ∧ nz ∉ (bw0_0 ++ (bw0_1 ++ bw0_2)) ∧ nz ∉ bxc0_0 ∧ nz ∉ (bg0_0 ++ (bg0_1 ++ bg0_2)) := ⟨w14.heap.size, cs_g0, bg0_0, bg0_1, bg0_2, rfl, X0.off O9 (ne_one (nbx_X0)), X1.off O9 (ne_one (nbx_X1)), Yw0.off O9 (ne_one (nbx_Yw0)), Z0.off O9 (ne_one (nbx_Z0)), B.trans (O9.toBelow B.size (fun y hy => by rw [List.mem_singleton.1 hy]; exact gNB)), w0.off O9 (fun y hy hm => nbk_w0 (by have e := List.mem_singleton.1 hm; subst e; exact hy)), xc0.off O9 (fun y hy hm => nbk_xc0 (by have e := List.mem_singleton.1 hm; subst e; exact hy)), g0.off O9 (fun y hy hm => nbk_g0 (by have e := List.mem_singleton.1 hm; subst e; exact hy)), R_g0, Y9, dj_w0_g0, dj_xc0_g0, nb_X0_g0, nb_X1_g0, nb_Yw0_g0, nb_Z0_g0, G_g0, nbk_w0, nbk_xc0, nbk_g0⟩
        go_wp2
        go_meet
        case rel => exact FIN
    case rest =>
      clear X0 X1 Yw0 Z0 B w0 xc0
      obtain ⟨nbg0, cs_g0, bg0_0, bg0_1, bg0_2, rfl, X0, X1, Yw0, Z0, B, w0, xc0, g0, R_g0, Yg0, dj_w0_g0, dj_xc0_g0, nb_X0_g0, nb_X1_g0, nb_Yw0_g0, nb_Z0_g0, G_g0, nb_Yg0_w0, nb_Yg0_xc0, nb_Yg0_g0⟩ := hcut
      obtain ⟨wc20, ewc⟩ : ∃ x : World, x = wc := ⟨_, rfl⟩
      subst ewc
      go_wp2_with (first | (refine wpList_load_blkg (by rfl) 41 _ rfl w.heap.size rfl X0 Try.underlying41 rfl (RC0.hi (by kernel_rfl)) ?_) | (refine wpList_load_blkg (by rfl) 44 _ rfl (w.heap.size + 1) rfl X1 Try.underlying44 rfl (by kernel_rfl) ?_) | (refine wpList_load_blkg (by rfl) 61 _ rfl nbw0 rfl Yw0 Try.underlying61 rfl (R_w0.hi (by kernel_rfl)) ?_) | (refine wpList_load_blkg (by rfl) 51 _ rfl w13.heap.size rfl Z0 Try.underlying51 rfl (R_xc0.hi (by kernel_rfl)) ?_) | (refine wpList_load_blkg (by rfl) 61 _ rfl nbg0 rfl Yg0 Try.underlying61 rfl (R_g0.hi (by kernel_rfl)) ?_))
      refine (eqNetResult_rd _ _ r _ (by exact g0.rd) (by exact w0.rd)).mono ?_
      rintro e w21 ⟨rfl, hb21⟩
      replace X0 := X0.keep hb21
      replace X1 := X1.keep hb21
      replace Yw0 := Yw0.keep hb21
      replace Z0 := Z0.keep hb21
      replace Yg0 := Yg0.keep hb21
      replace w0 := w0.keep hb21
      replace xc0 := xc0.keep hb21
      replace g0 := g0.keep hb21
      replace B := B.trans (hb21.mono B.size)
      (try replace NB := NB.keep hb21)
      clear hb21
      go_wp2_with fail
      refine wp_region_held (S := fun V => Blk V w13.heap.size 51 cs_xc0 ∧ Blk V w.heap.size 41 cs0) (by kernel_rfl) ?_
      try (change wpAnyH _ _ _ _ _ _ _ _ (World.drew _))
      have hS : (fun V => Blk V w13.heap.size 51 cs_xc0 ∧ Blk V w.heap.size 41 cs0) _ := ⟨Z0.drew, X0.drew⟩
      replace X0 := X0.drew
      replace X1 := X1.drew
      replace Yw0 := Yw0.drew
      replace Z0 := Z0.drew
      replace Yg0 := Yg0.drew
      replace w0 := w0.drew
      replace xc0 := xc0.drew
      replace g0 := g0.drew
      replace B := B.drew
      refine wpAnyH_take (i := 0) (v := _) rfl (by kernel_rfl) (by kernel_rfl) (by kernel_rfl) (fun _ _ _ h => h) (yieldsIf_load_mid (by rfl) _ _ rfl _ _ rfl _ _ (fun _ h => h.1.range) Try.underlying51 rfl (by simpa using (R_xc0.hi (by kernel_rfl)))) hS ?_
      (try simp only [List.getElem_toArray]); (try simp only [List.getElem_cons_succ]); (try simp only [List.getElem_cons_zero]); (try simp only [Act.put]); (try simp only [List.setIfInBounds_toArray]); (try simp only [List.set_cons_succ]); (try simp only [List.set_cons_zero])
      refine wpAnyH_take (i := 1) (v := _) rfl (by kernel_rfl) (by kernel_rfl) (by kernel_rfl) (fun _ _ _ h => h) (yieldsIf_load_mid (by rfl) _ _ rfl _ _ rfl _ _ (fun _ h => h.2.range) Try.underlying41 rfl (by simpa using (RC0.hi (by kernel_rfl)))) hS ?_
      (try simp only [List.getElem_toArray]); (try simp only [List.getElem_cons_succ]); (try simp only [List.getElem_cons_zero]); (try simp only [Act.put]); (try simp only [List.setIfInBounds_toArray]); (try simp only [List.set_cons_succ]); (try simp only [List.set_cons_zero])
      refine wpAnyH_ready (rs := [2]) (by kernel_rfl) (by simp) ?_
      refine AllReadyH.cons (o := _) rfl (fun K hK => ?_) AllReadyH.nil
      rw [if_pos (by rfl)]
      go_simp
      go_at_call 29
      refine (toTape_ow _ x0 _ (by exact r0.below B) (by omega)).mono ?_
      rintro e w22 ⟨u, by_0, rfl, y, fy_0, hb22⟩
      obtain ⟨cs_y, e_y, R_y⟩ := y.row
      subst e_y
      have F_y : ∀ y ∈ by_0, w21.drew.heap.size ≤ y := fy_0
      (try have nbk_y : _ ∉ by_0 := fun hm => Nat.not_lt.2 (F_y _ hm) NB.lt)
      have dj_w0_y : Dj (bw0_0 ++ (bw0_1 ++ bw0_2)) by_0 := fun y hy hm => Nat.not_lt.2 (F_y y hm) (w0.lt y hy)
      have dj_xc0_y : Dj bxc0_0 by_0 := fun y hy hm => Nat.not_lt.2 (F_y y hm) (xc0.lt y hy)
      have dj_g0_y : Dj (bg0_0 ++ (bg0_1 ++ bg0_2)) by_0 := fun y hy hm => Nat.not_lt.2 (F_y y hm) (g0.lt y hy)
      have nb_X0_y : w.heap.size ∉ by_0 := fun hm => Nat.not_lt.2 (F_y _ hm) X0.lt
      have nb_X1_y : (w.heap.size + 1) ∉ by_0 := fun hm => Nat.not_lt.2 (F_y _ hm) X1.lt
      have nb_Yw0_y : nbw0 ∉ by_0 := fun hm => Nat.not_lt.2 (F_y _ hm) Yw0.lt
      have nb_Z0_y : w13.heap.size ∉ by_0 := fun hm => Nat.not_lt.2 (F_y _ hm) Z0.lt
      have nb_Yg0_y : nbg0 ∉ by_0 := fun hm => Nat.not_lt.2 (F_y _ hm) Yg0.lt
      have G_y : ∀ y ∈ by_0, w.heap.size ≤ y := fun y hy => Nat.le_trans B.size (F_y y hy)
      clear F_y
      replace X0 := X0.keep hb22
      replace X1 := X1.keep hb22
      replace Yw0 := Yw0.keep hb22
      replace Z0 := Z0.keep hb22
      replace Yg0 := Yg0.keep hb22
      replace w0 := w0.keep hb22
      replace xc0 := xc0.keep hb22
      replace g0 := g0.keep hb22
      replace B := B.trans (hb22.mono B.size)
      (try replace NB := NB.keep hb22)
      clear hb22 fy_0
      dsimp only
      refine hK.out _ _ ⟨Z0, X0⟩ (fun hS => ?_)
      clear hK K
      (try simp only [List.getElem_toArray]); (try simp only [List.getElem_cons_succ]); (try simp only [List.getElem_cons_zero]); (try simp only [Act.put]); (try simp only [List.setIfInBounds_toArray]); (try simp only [List.set_cons_succ]); (try simp only [List.set_cons_zero])
      refine wpAnyH_ready (rs := [3]) (by kernel_rfl) (by simp) ?_
      refine AllReadyH.cons (o := _) rfl (fun K hK => ?_) AllReadyH.nil
      rw [if_pos (by rfl)]
      go_simp
      go_at_call 33
      refine (eqTape_rd _ _ x0 _ (by exact xc0.rd) (by exact y.rd)).mono ?_
      rintro e w23 ⟨rfl, hb23⟩
      replace X0 := X0.keep hb23
      replace X1 := X1.keep hb23
      replace Yw0 := Yw0.keep hb23
      replace Z0 := Z0.keep hb23
      replace Yg0 := Yg0.keep hb23
      replace w0 := w0.keep hb23
      replace xc0 := xc0.keep hb23
      replace g0 := g0.keep hb23
      replace y := y.keep hb23
      replace B := B.trans (hb23.mono B.size)
      (try replace NB := NB.keep hb23)
      clear hb23
      dsimp only
      refine hK.out _ _ ⟨Z0, X0⟩ (fun hS => ?_)
      clear hK K
      (try simp only [List.getElem_toArray]); (try simp only [List.getElem_cons_succ]); (try simp only [List.getElem_cons_zero]); (try simp only [Act.put]); (try simp only [List.setIfInBounds_toArray]); (try simp only [List.set_cons_succ]); (try simp only [List.set_cons_zero])
      refine wpAnyH_take (i := 4) (v := .bool false) rfl (by kernel_rfl) (by kernel_rfl) (by kernel_rfl) (fun _ _ _ h => h) (Or.inl ⟨by rfl, ?_⟩) hS ?_
      · intro w' hSw
        go_simp
      (try simp only [List.getElem_toArray]); (try simp only [List.getElem_cons_succ]); (try simp only [List.getElem_cons_zero]); (try simp only [Act.put]); (try simp only [List.setIfInBounds_toArray]); (try simp only [List.set_cons_succ]); (try simp only [List.set_cons_zero])
      refine wpAnyH_done (by kernel_rfl) ?_ _
      clear y G_y
      clear hS
      go_wp2_with (first | (refine wpList_load_blkg (by rfl) 41 _ rfl w.heap.size rfl X0 Try.underlying41 rfl (RC0.hi (by kernel_rfl)) ?_) | (refine wpList_load_blkg (by rfl) 44 _ rfl (w.heap.size + 1) rfl X1 Try.underlying44 rfl (by kernel_rfl) ?_) | (refine wpList_load_blkg (by rfl) 61 _ rfl nbw0 rfl Yw0 Try.underlying61 rfl (R_w0.hi (by kernel_rfl)) ?_) | (refine wpList_load_blkg (by rfl) 51 _ rfl w13.heap.size rfl Z0 Try.underlying51 rfl (R_xc0.hi (by kernel_rfl)) ?_) | (refine wpList_load_blkg (by rfl) 61 _ rfl nbg0 rfl Yg0 Try.underlying61 rfl (R_g0.hi (by kernel_rfl)) ?_))
      refine (markTape_ow _ x0 bxc0_0 _ _ (by exact xc0) (by omega) (by omega)).mono ?_
      rintro e w24 ⟨rfl, mm, oo⟩
      replace X0 := X0.off oo nb_X0_xc0
      replace X1 := X1.off oo nb_X1_xc0
      replace Yw0 := Yw0.off oo nb_Yw0_xc0
      replace Z0 := Z0.off oo nb_Z0_xc0
      replace Yg0 := Yg0.off oo nb_Yg0_xc0
      replace w0 := w0.off oo dj_w0_xc0
      replace g0 := g0.off oo dj_xc0_g0.symm
      replace B := B.trans (oo.toBelow B.size G_xc0)
      clear xc0 oo
      have xc0 := mm
      clear mm
      go_wp2_with (first | (refine wpList_load_blkg (by rfl) 41 _ rfl w.heap.size rfl X0 Try.underlying41 rfl (RC0.hi (by kernel_rfl)) ?_) | (refine wpList_load_blkg (by rfl) 44 _ rfl (w.heap.size + 1) rfl X1 Try.underlying44 rfl (by kernel_rfl) ?_) | (refine wpList_load_blkg (by rfl) 61 _ rfl nbw0 rfl Yw0 Try.underlying61 rfl (R_w0.hi (by kernel_rfl)) ?_) | (refine wpList_load_blkg (by rfl) 51 _ rfl w13.heap.size rfl Z0 Try.underlying51 rfl (R_xc0.hi (by kernel_rfl)) ?_) | (refine wpList_load_blkg (by rfl) 61 _ rfl nbg0 rfl Yg0 Try.underlying61 rfl (R_g0.hi (by kernel_rfl)) ?_))
      refine (eqNetResult_rd _ _ r _ (by exact g0.rd) (by exact w0.rd)).mono ?_
      rintro e w25 ⟨rfl, hb25⟩
      replace X0 := X0.keep hb25
      replace X1 := X1.keep hb25
      replace Yw0 := Yw0.keep hb25
      replace Z0 := Z0.keep hb25
      replace Yg0 := Yg0.keep hb25
      replace w0 := w0.keep hb25
      replace xc0 := xc0.keep hb25
      replace g0 := g0.keep hb25
      replace B := B.trans (hb25.mono B.size)
      (try replace NB := NB.keep hb25)
      clear hb25
      go_wp2_with (first | (refine wpList_load_blkg (by rfl) 41 _ rfl w.heap.size rfl X0 Try.underlying41 rfl (RC0.hi (by kernel_rfl)) ?_) | (refine wpList_load_blkg (by rfl) 44 _ rfl (w.heap.size + 1) rfl X1 Try.underlying44 rfl (by kernel_rfl) ?_) | (refine wpList_load_blkg (by rfl) 61 _ rfl nbw0 rfl Yw0 Try.underlying61 rfl (R_w0.hi (by kernel_rfl)) ?_) | (refine wpList_load_blkg (by rfl) 51 _ rfl w13.heap.size rfl Z0 Try.underlying51 rfl (R_xc0.hi (by kernel_rfl)) ?_) | (refine wpList_load_blkg (by rfl) 61 _ rfl nbg0 rfl Yg0 Try.underlying61 rfl (R_g0.hi (by kernel_rfl)) ?_))
      refine (markNetResult_ow _ r bg0_0 bg0_1 bg0_2 _ _ (by exact g0) (by omega) (by omega)).mono ?_
      rintro e w26 ⟨rfl, mm, oo⟩
      replace X0 := X0.off oo nb_X0_g0
      replace X1 := X1.off oo nb_X1_g0
      replace Yw0 := Yw0.off oo nb_Yw0_g0
      replace Z0 := Z0.off oo nb_Z0_g0
      replace Yg0 := Yg0.off oo nb_Yg0_g0
      replace w0 := w0.off oo dj_w0_g0
      replace xc0 := xc0.off oo dj_xc0_g0
      replace B := B.trans (oo.toBelow B.size G_g0)
      clear g0 oo
      have g0 := mm
      clear mm
      go_wp2_with (first | (refine wpList_load_blkg (by rfl) 41 _ rfl w.heap.size rfl X0 Try.underlying41 rfl (RC0.hi (by kernel_rfl)) ?_) | (refine wpList_load_blkg (by rfl) 44 _ rfl (w.heap.size + 1) rfl X1 Try.underlying44 rfl (by kernel_rfl) ?_) | (refine wpList_load_blkg (by rfl) 61 _ rfl nbw0 rfl Yw0 Try.underlying61 rfl (R_w0.hi (by kernel_rfl)) ?_) | (refine wpList_load_blkg (by rfl) 51 _ rfl w13.heap.size rfl Z0 Try.underlying51 rfl (R_xc0.hi (by kernel_rfl)) ?_) | (refine wpList_load_blkg (by rfl) 61 _ rfl nbg0 rfl Yg0 Try.underlying61 rfl (R_g0.hi (by kernel_rfl)) ?_))
      refine (heldNetResult_rd _ r _ _ (by exact g0.rd) (by omega) (by omega)).mono ?_
      rintro e w27 ⟨rfl, hb27⟩
      replace X0 := X0.keep hb27
      replace X1 := X1.keep hb27
      replace Yw0 := Yw0.keep hb27
      replace Z0 := Z0.keep hb27
      replace Yg0 := Yg0.keep hb27
      replace w0 := w0.keep hb27
      replace xc0 := xc0.keep hb27
      replace g0 := g0.keep hb27
      replace B := B.trans (hb27.mono B.size)
      (try replace NB := NB.keep hb27)
      clear hb27
      go_wp2_with fail
      (try simp only [Act.put])
      go_cut [12] from 13 (fun s wr => ∃ nz cs_h0 bh0_0 bh0_1 bh0_2, s = .pointer (some ⟨nz, 0, none⟩) ∧ Blk wr w.heap.size 41 cs0 ∧ Blk wr (w.heap.size + 1) 44 #[.int .i64 x1.xWho, .int .i64 x1.xAt, .int .i64 x1.xBy, .bool x1.xCry] ∧ Blk wr nbw0 61 cs_w0 ∧ Blk wr w13.heap.size 51 cs_xc0 ∧ Blk wr nbg0 61 cs_g0 ∧ Below w.heap.size w wr ∧ OwNetResult wr (.agg cs_w0) r bw0_0 bw0_1 bw0_2 ∧ OwTape wr (.agg cs_xc0) (mkTape 1 x0) bxc0_0 ∧ OwNetResult wr (.agg cs_g0) (mkNetResult 1 r) bg0_0 bg0_1 bg0_2 ∧ OwNetResult wr (.agg cs_h0) r bh0_0 bh0_1 bh0_2 ∧ Rw 18 cs_h0 ∧ Blk wr nz 61 cs_h0 ∧ Dj (bw0_0 ++ (bw0_1 ++ bw0_2)) (bh0_0 ++ (bh0_1 ++ bh0_2)) ∧ Dj bxc0_0 (bh0_0 ++ (bh0_1 ++ bh0_2)) ∧ Dj (bg0_0 ++ (bg0_1 ++ bg0_2)) (bh0_0 ++ (bh0_1 ++ bh0_2)) ∧ w.heap.size ∉ (bh0_0 ++ (bh0_1 ++ bh0_2)) ∧ (w.heap.size + 1) ∉ (bh0_0 ++ (bh0_1 ++ bh0_2)) ∧ nbw0 ∉ (bh0_0 ++ (bh0_1 ++ bh0_2)) ∧ w13.heap.size ∉ (bh0_0 ++ (bh0_1 ++ bh0_2)) ∧ nbg0 ∉ (bh0_0 ++ (bh0_1 ++ bh0_2)) ∧ (∀ y ∈ (bh0_0 ++ (bh0_1 ++ bh0_2)), w.heap.size ≤ y) ∧ nz ∉ (bw0_0 ++ (bw0_1 ++ bw0_2)) ∧ nz ∉ bxc0_0 ∧ nz ∉ (bg0_0 ++ (bg0_1 ++ bg0_2)) ∧ nz ∉ (bh0_0 ++ (bh0_1 ++ bh0_2)))
      case first =>
        refine wp_region_held (S := fun V => Blk V w.heap.size 41 cs0 ∧ Blk V (w.heap.size + 1) 44 #[.int .i64 x1.xWho, .int .i64 x1.xAt, .int .i64 x1.xBy, .bool x1.xCry]) (by kernel_rfl) ?_
        try (change wpAnyH _ _ _ _ _ _ _ _ (World.drew _))
        have hS : (fun V => Blk V w.heap.size 41 cs0 ∧ Blk V (w.heap.size + 1) 44 #[.int .i64 x1.xWho, .int .i64 x1.xAt, .int .i64 x1.xBy, .bool x1.xCry]) _ := ⟨X0.drew, X1.drew⟩
        replace X0 := X0.drew
        replace X1 := X1.drew
        replace Yw0 := Yw0.drew
        replace Z0 := Z0.drew
        replace Yg0 := Yg0.drew
        replace w0 := w0.drew
        replace xc0 := xc0.drew
        replace g0 := g0.drew
        replace B := B.drew
        refine wpAnyH_take (i := 0) (v := _) rfl (by kernel_rfl) (by kernel_rfl) (by kernel_rfl) (fun _ _ _ h => h) (yieldsIf_load_mid (by rfl) _ _ rfl _ _ rfl _ _ (fun _ h => h.1.range) Try.underlying41 rfl (by simpa using (RC0.hi (by kernel_rfl)))) hS ?_
        (try simp only [List.getElem_toArray]); (try simp only [List.getElem_cons_succ]); (try simp only [List.getElem_cons_zero]); (try simp only [Act.put]); (try simp only [List.setIfInBounds_toArray]); (try simp only [List.set_cons_succ]); (try simp only [List.set_cons_zero])
        refine wpAnyH_take (i := 2) (v := _) rfl (by kernel_rfl) (by kernel_rfl) (by kernel_rfl) (fun _ _ _ h => h) (yieldsIf_load_mid (by rfl) _ _ rfl _ _ rfl _ _ (fun _ h => h.2.range) Try.underlying44 rfl (by kernel_rfl)) hS ?_
        (try simp only [List.getElem_toArray]); (try simp only [List.getElem_cons_succ]); (try simp only [List.getElem_cons_zero]); (try simp only [Act.put]); (try simp only [List.setIfInBounds_toArray]); (try simp only [List.set_cons_succ]); (try simp only [List.set_cons_zero])
        refine wpAnyH_ready (rs := [1, 5]) (by kernel_rfl) (by simp) ?_
        refine AllReadyH.cons (o := _) rfl (fun K hK => ?_) (AllReadyH.cons (o := _) rfl (fun K hK => ?_) AllReadyH.nil)
        · rw [if_pos (by rfl)]
          go_simp
          go_at_call 29
          refine (toTape_ow _ x0 _ (by exact r0.below B) (by omega)).mono ?_
          rintro e w28 ⟨u, bh0a0_0, rfl, h0a0, fh0a0_0, hb28⟩
          obtain ⟨cs_h0a0, e_h0a0, R_h0a0⟩ := h0a0.row
          subst e_h0a0
          have F_h0a0 : ∀ y ∈ bh0a0_0, w27.drew.heap.size ≤ y := fh0a0_0
          (try have nbk_h0a0 : _ ∉ bh0a0_0 := fun hm => Nat.not_lt.2 (F_h0a0 _ hm) NB.lt)
          have dj_w0_h0a0 : Dj (bw0_0 ++ (bw0_1 ++ bw0_2)) bh0a0_0 := fun y hy hm => Nat.not_lt.2 (F_h0a0 y hm) (w0.lt y hy)
          have dj_xc0_h0a0 : Dj bxc0_0 bh0a0_0 := fun y hy hm => Nat.not_lt.2 (F_h0a0 y hm) (xc0.lt y hy)
          have dj_g0_h0a0 : Dj (bg0_0 ++ (bg0_1 ++ bg0_2)) bh0a0_0 := fun y hy hm => Nat.not_lt.2 (F_h0a0 y hm) (g0.lt y hy)
          have nb_X0_h0a0 : w.heap.size ∉ bh0a0_0 := fun hm => Nat.not_lt.2 (F_h0a0 _ hm) X0.lt
          have nb_X1_h0a0 : (w.heap.size + 1) ∉ bh0a0_0 := fun hm => Nat.not_lt.2 (F_h0a0 _ hm) X1.lt
          have nb_Yw0_h0a0 : nbw0 ∉ bh0a0_0 := fun hm => Nat.not_lt.2 (F_h0a0 _ hm) Yw0.lt
          have nb_Z0_h0a0 : w13.heap.size ∉ bh0a0_0 := fun hm => Nat.not_lt.2 (F_h0a0 _ hm) Z0.lt
          have nb_Yg0_h0a0 : nbg0 ∉ bh0a0_0 := fun hm => Nat.not_lt.2 (F_h0a0 _ hm) Yg0.lt
          have G_h0a0 : ∀ y ∈ bh0a0_0, w.heap.size ≤ y := fun y hy => Nat.le_trans B.size (F_h0a0 y hy)
          clear F_h0a0
          (try replace NB := NB.keep hb28)
          replace X0 := X0.keep hb28
          replace X1 := X1.keep hb28
          replace Yw0 := Yw0.keep hb28
          replace Z0 := Z0.keep hb28
          replace Yg0 := Yg0.keep hb28
          replace w0 := w0.keep hb28
          replace xc0 := xc0.keep hb28
          replace g0 := g0.keep hb28
          replace B := B.trans (hb28.mono B.size)
          clear hb28 fh0a0_0
          (try dsimp only)
          refine hK.out _ _ ⟨X0, X1⟩ (fun hS => ?_)
          clear hK K
          (try simp only [List.getElem_toArray]); (try simp only [List.getElem_cons_succ]); (try simp only [List.getElem_cons_zero]); (try simp only [Act.put]); (try simp only [List.setIfInBounds_toArray]); (try simp only [List.set_cons_succ]); (try simp only [List.set_cons_zero])
          refine wpAnyH_ready (rs := [3, 5]) (by kernel_rfl) (by simp) ?_
          refine AllReadyH.cons (o := _) rfl (fun K hK => ?_) (AllReadyH.cons (o := _) rfl (fun K hK => ?_) AllReadyH.nil)
          · rw [if_pos (by rfl)]
            go_simp
            go_at_call 30
            refine (toCheat_ow _ x1 _ (by exact rfl)).mono ?_
            rintro e w29 ⟨rfl, hb29⟩
            (try replace NB := NB.keep hb29)
            replace X0 := X0.keep hb29
            replace X1 := X1.keep hb29
            replace Yw0 := Yw0.keep hb29
            replace Z0 := Z0.keep hb29
            replace Yg0 := Yg0.keep hb29
            replace w0 := w0.keep hb29
            replace xc0 := xc0.keep hb29
            replace g0 := g0.keep hb29
            replace h0a0 := h0a0.keep hb29
            replace B := B.trans (hb29.mono B.size)
            clear hb29
            (try dsimp only)
            refine hK.out _ _ ⟨X0, X1⟩ (fun hS => ?_)
            clear hK K
            (try simp only [List.getElem_toArray]); (try simp only [List.getElem_cons_succ]); (try simp only [List.getElem_cons_zero]); (try simp only [Act.put]); (try simp only [List.setIfInBounds_toArray]); (try simp only [List.set_cons_succ]); (try simp only [List.set_cons_zero])
            refine wpAnyH_ready (rs := [4, 5]) (by kernel_rfl) (by simp) ?_
            refine AllReadyH.cons (o := _) rfl (fun K hK => ?_) (AllReadyH.cons (o := _) rfl (fun K hK => ?_) AllReadyH.nil)
            · rw [if_pos (by rfl)]
              go_simp
              go_at_call 31
              refine (HI.out _ _ _ (by exact h0a0.rd) (by exact rfl)).mono ?_
              rintro e w30 ⟨u, bh0_0, bh0_1, bh0_2, rfl, h0, fh0_0, fh0_1, fh0_2, hb30⟩
              obtain ⟨cs_h0, e_h0, R_h0⟩ := h0.row
              subst e_h0
              have F_h0 : ∀ y ∈ (bh0_0 ++ (bh0_1 ++ bh0_2)), w29.heap.size ≤ y := all_app fh0_0 (all_app fh0_1 fh0_2)
              (try have nbk_h0 : _ ∉ (bh0_0 ++ (bh0_1 ++ bh0_2)) := fun hm => Nat.not_lt.2 (F_h0 _ hm) NB.lt)
              have dj_w0_h0 : Dj (bw0_0 ++ (bw0_1 ++ bw0_2)) (bh0_0 ++ (bh0_1 ++ bh0_2)) := fun y hy hm => Nat.not_lt.2 (F_h0 y hm) (w0.lt y hy)
              have dj_xc0_h0 : Dj bxc0_0 (bh0_0 ++ (bh0_1 ++ bh0_2)) := fun y hy hm => Nat.not_lt.2 (F_h0 y hm) (xc0.lt y hy)
              have dj_g0_h0 : Dj (bg0_0 ++ (bg0_1 ++ bg0_2)) (bh0_0 ++ (bh0_1 ++ bh0_2)) := fun y hy hm => Nat.not_lt.2 (F_h0 y hm) (g0.lt y hy)
              have dj_h0a0_h0 : Dj bh0a0_0 (bh0_0 ++ (bh0_1 ++ bh0_2)) := fun y hy hm => Nat.not_lt.2 (F_h0 y hm) (h0a0.lt y hy)
              have nb_X0_h0 : w.heap.size ∉ (bh0_0 ++ (bh0_1 ++ bh0_2)) := fun hm => Nat.not_lt.2 (F_h0 _ hm) X0.lt
              have nb_X1_h0 : (w.heap.size + 1) ∉ (bh0_0 ++ (bh0_1 ++ bh0_2)) := fun hm => Nat.not_lt.2 (F_h0 _ hm) X1.lt
              have nb_Yw0_h0 : nbw0 ∉ (bh0_0 ++ (bh0_1 ++ bh0_2)) := fun hm => Nat.not_lt.2 (F_h0 _ hm) Yw0.lt
              have nb_Z0_h0 : w13.heap.size ∉ (bh0_0 ++ (bh0_1 ++ bh0_2)) := fun hm => Nat.not_lt.2 (F_h0 _ hm) Z0.lt
              have nb_Yg0_h0 : nbg0 ∉ (bh0_0 ++ (bh0_1 ++ bh0_2)) := fun hm => Nat.not_lt.2 (F_h0 _ hm) Yg0.lt
              have G_h0 : ∀ y ∈ (bh0_0 ++ (bh0_1 ++ bh0_2)), w.heap.size ≤ y := fun y hy => Nat.le_trans B.size (F_h0 y hy)
              clear F_h0
              (try replace NB := NB.keep hb30)
              replace X0 := X0.keep hb30
              replace X1 := X1.keep hb30
              replace Yw0 := Yw0.keep hb30
              replace Z0 := Z0.keep hb30
              replace Yg0 := Yg0.keep hb30
              replace w0 := w0.keep hb30
              replace xc0 := xc0.keep hb30
              replace g0 := g0.keep hb30
              replace h0a0 := h0a0.keep hb30
              replace B := B.trans (hb30.mono B.size)
              clear hb30 fh0_0 fh0_1 fh0_2
              (try dsimp only)
              refine hK.out _ _ ⟨X0, X1⟩ (fun hS => ?_)
              clear hK K
              (try simp only [List.getElem_toArray]); (try simp only [List.getElem_cons_succ]); (try simp only [List.getElem_cons_zero]); (try simp only [Act.put]); (try simp only [List.setIfInBounds_toArray]); (try simp only [List.set_cons_succ]); (try simp only [List.set_cons_zero])
              refine wpAnyH_ready (rs := [5]) (by kernel_rfl) (by simp) ?_
              refine AllReadyH.cons (o := _) rfl (fun K hK => ?_) AllReadyH.nil
              rw [if_pos (by rfl)]
              go_simp
              have nbx_X0 : w.heap.size ≠ w30.heap.size := Nat.ne_of_lt X0.lt
              have nbx_X1 : (w.heap.size + 1) ≠ w30.heap.size := Nat.ne_of_lt X1.lt
              have nbx_Yw0 : nbw0 ≠ w30.heap.size := Nat.ne_of_lt Yw0.lt
              have nbx_Z0 : w13.heap.size ≠ w30.heap.size := Nat.ne_of_lt Z0.lt
              have nbx_Yg0 : nbg0 ≠ w30.heap.size := Nat.ne_of_lt Yg0.lt
              have nbk_w0 : w30.heap.size ∉ (bw0_0 ++ (bw0_1 ++ bw0_2)) := fun hm => Nat.lt_irrefl _ (w0.lt _ hm)
              have nbk_xc0 : w30.heap.size ∉ bxc0_0 := fun hm => Nat.lt_irrefl _ (xc0.lt _ hm)
              have nbk_g0 : w30.heap.size ∉ (bg0_0 ++ (bg0_1 ++ bg0_2)) := fun hm => Nat.lt_irrefl _ (g0.lt _ hm)
              have nbk_h0a0 : w30.heap.size ∉ bh0a0_0 := fun hm => Nat.lt_irrefl _ (h0a0.lt _ hm)
              have nbk_h0 : w30.heap.size ∉ (bh0_0 ++ (bh0_1 ++ bh0_2)) := fun hm => Nat.lt_irrefl _ (h0.lt _ hm)
              replace X0 := X0.alloc (.cells #[.int .i64 0, .int .i64 0, .slice none 0 0, .slice none 0 0, .int .i64 0, .slice none 0 0, .int .i64 0, .int .i64 0, .int .i64 0, .bool false, .bool false, .int .i64 0, .int .i64 0, .int .i64 0, .int .i64 0, .int .i64 0, .int .i64 0, .int .i64 0] 61)
              replace X1 := X1.alloc (.cells #[.int .i64 0, .int .i64 0, .slice none 0 0, .slice none 0 0, .int .i64 0, .slice none 0 0, .int .i64 0, .int .i64 0, .int .i64 0, .bool false, .bool false, .int .i64 0, .int .i64 0, .int .i64 0, .int .i64 0, .int .i64 0, .int .i64 0, .int .i64 0] 61)
              replace Yw0 := Yw0.alloc (.cells #[.int .i64 0, .int .i64 0, .slice none 0 0, .slice none 0 0, .int .i64 0, .slice none 0 0, .int .i64 0, .int .i64 0, .int .i64 0, .bool false, .bool false, .int .i64 0, .int .i64 0, .int .i64 0, .int .i64 0, .int .i64 0, .int .i64 0, .int .i64 0] 61)
              replace Z0 := Z0.alloc (.cells #[.int .i64 0, .int .i64 0, .slice none 0 0, .slice none 0 0, .int .i64 0, .slice none 0 0, .int .i64 0, .int .i64 0, .int .i64 0, .bool false, .bool false, .int .i64 0, .int .i64 0, .int .i64 0, .int .i64 0, .int .i64 0, .int .i64 0, .int .i64 0] 61)
              replace Yg0 := Yg0.alloc (.cells #[.int .i64 0, .int .i64 0, .slice none 0 0, .slice none 0 0, .int .i64 0, .slice none 0 0, .int .i64 0, .int .i64 0, .int .i64 0, .bool false, .bool false, .int .i64 0, .int .i64 0, .int .i64 0, .int .i64 0, .int .i64 0, .int .i64 0, .int .i64 0] 61)
              replace w0 := w0.alloc (.cells #[.int .i64 0, .int .i64 0, .slice none 0 0, .slice none 0 0, .int .i64 0, .slice none 0 0, .int .i64 0, .int .i64 0, .int .i64 0, .bool false, .bool false, .int .i64 0, .int .i64 0, .int .i64 0, .int .i64 0, .int .i64 0, .int .i64 0, .int .i64 0] 61)
              replace xc0 := xc0.alloc (.cells #[.int .i64 0, .int .i64 0, .slice none 0 0, .slice none 0 0, .int .i64 0, .slice none 0 0, .int .i64 0, .int .i64 0, .int .i64 0, .bool false, .bool false, .int .i64 0, .int .i64 0, .int .i64 0, .int .i64 0, .int .i64 0, .int .i64 0, .int .i64 0] 61)
              replace g0 := g0.alloc (.cells #[.int .i64 0, .int .i64 0, .slice none 0 0, .slice none 0 0, .int .i64 0, .slice none 0 0, .int .i64 0, .int .i64 0, .int .i64 0, .bool false, .bool false, .int .i64 0, .int .i64 0, .int .i64 0, .int .i64 0, .int .i64 0, .int .i64 0, .int .i64 0] 61)
              replace h0a0 := h0a0.alloc (.cells #[.int .i64 0, .int .i64 0, .slice none 0 0, .slice none 0 0, .int .i64 0, .slice none 0 0, .int .i64 0, .int .i64 0, .int .i64 0, .bool false, .bool false, .int .i64 0, .int .i64 0, .int .i64 0, .int .i64 0, .int .i64 0, .int .i64 0, .int .i64 0] 61)
              replace h0 := h0.alloc (.cells #[.int .i64 0, .int .i64 0, .slice none 0 0, .slice none 0 0, .int .i64 0, .slice none 0 0, .int .i64 0, .int .i64 0, .int .i64 0, .bool false, .bool false, .int .i64 0, .int .i64 0, .int .i64 0, .int .i64 0, .int .i64 0, .int .i64 0, .int .i64 0] 61)
              have NB := Blk.new w30 61 #[.int .i64 0, .int .i64 0, .slice none 0 0, .slice none 0 0, .int .i64 0, .slice none 0 0, .int .i64 0, .int .i64 0, .int .i64 0, .bool false, .bool false, .int .i64 0, .int .i64 0, .int .i64 0, .int .i64 0, .int .i64 0, .int .i64 0, .int .i64 0]
              have gNB : w.heap.size ≤ w30.heap.size := B.size
              replace B := B.alloc B.size (.cells #[.int .i64 0, .int .i64 0, .slice none 0 0, .slice none 0 0, .int .i64 0, .slice none 0 0, .int .i64 0, .int .i64 0, .int .i64 0, .bool false, .bool false, .int .i64 0, .int .i64 0, .int .i64 0, .int .i64 0, .int .i64 0, .int .i64 0, .int .i64 0] 61)
              refine hK.out _ _ ⟨X0, X1⟩ (fun hS => ?_)
              clear hK K
              (try simp only [List.getElem_toArray]); (try simp only [List.getElem_cons_succ]); (try simp only [List.getElem_cons_zero]); (try simp only [Act.put]); (try simp only [List.setIfInBounds_toArray]); (try simp only [List.set_cons_succ]); (try simp only [List.set_cons_zero])
              refine wpAnyH_ready (rs := [6]) (by kernel_rfl) (by simp) ?_
              refine AllReadyH.cons (o := _) rfl (fun K hK => ?_) AllReadyH.nil
              refine step_store_blk rfl 61 _ _ rfl w30.heap.size cs_h0 rfl rfl NB (by rw [R_h0.1]; rfl) (R_h0.hi (by kernel_rfl)) R_h0.2 ?_
              intro w9 Y9 O9
              refine hK.out _ _ ⟨(X0.off O9 (ne_one (nbx_X0))), (X1.off O9 (ne_one (nbx_X1)))⟩ (fun hS => ?_)
              clear hK K
              (try simp only [List.getElem_toArray]); (try simp only [List.getElem_cons_succ]); (try simp only [List.getElem_cons_zero]); (try simp only [Act.put]); (try simp only [List.setIfInBounds_toArray]); (try simp only [List.set_cons_succ]); (try simp only [List.set_cons_zero])
              refine wpAnyH_done (by kernel_rfl) ?_ _
              have FIN : ∃ nz cs_h0 bh0_0 bh0_1 bh0_2, (Value.pointer (some ⟨w30.heap.size, 0, none⟩)) = .pointer (some ⟨nz, 0, none⟩) ∧ Blk w9 w.heap.size 41 cs0 ∧ Blk w9 (w.heap.size + 1) 44 #[.int .i64 x1.xWho, .int .i64 x1.xAt, .int .i64 x1.xBy, .bool x1.xCry] ∧ Blk w9 nbw0 61 cs_w0 ∧ Blk w9 w13.heap.size 51 cs_xc0 ∧ Blk w9 nbg0 61 cs_g0 ∧ Below w.heap.size w w9 ∧ OwNetResult w9 (.agg cs_w0) r bw0_0 bw0_1 bw0_2 ∧ OwTape w9 (.agg cs_xc0) (mkTape 1 x0) bxc0_0 ∧ OwNetResult w9 (.agg cs_g0) (mkNetResult 1 r) bg0_0 bg0_1 bg0_2 ∧ OwNetResult w9 (.agg cs_h0) r bh0_0 bh0_1 bh0_2 ∧ Rw 18 cs_h0 ∧ Blk w9 nz 61 cs_h0 ∧ Dj (bw0_0 ++ (bw0_1 ++ bw0_2)) (bh0_0 ++ (bh0_1 ++ bh0_2)) ∧ Dj bxc0_0 (bh0_0 ++ (bh0_1 ++ bh0_2)) ∧ Dj (bg0_0 ++ (bg0_1 ++ bg0_2)) (bh0_0 ++ (bh0_1 ++ bh0_2)) ∧ w.heap.size ∉ (bh0_0 ++ (bh0_1 ++ bh0_2)) ∧ (w.heap.size + 1) ∉ (bh0_0 ++ (bh0_1 ++ bh0_2)) ∧ nbw0 ∉ (bh0_0 ++ (bh0_1 ++ bh0_2)) ∧ w13.heap.size ∉ (bh0_0 ++ (bh0_1 ++ bh0_2)) ∧ nbg0 ∉ (bh0_0 ++ (bh0_1 ++ bh0_2)) ∧ (∀ y ∈ (bh0_0 ++ (bh0_1 ++ bh0_2)), w.heap.size ≤ y) ∧ nz ∉ (bw0_0 ++ (bw0_1 ++ bw0_2)) ∧ nz ∉ bxc0_0 ∧ nz ∉ (bg0_0 ++ (bg0_1 ++ bg0_2)) ∧ nz ∉ (bh0_0 ++ (bh0_1 ++ bh0_2)) := ⟨w30.heap.size, cs_h0, bh0_0, bh0_1, bh0_2, rfl, X0.off O9 (ne_one (nbx_X0)), X1.off O9 (ne_one (nbx_X1)), Yw0.off O9 (ne_one (nbx_Yw0)), Z0.off O9 (ne_one (nbx_Z0)), Yg0.off O9 (ne_one (nbx_Yg0)), B.trans (O9.toBelow B.size (fun y hy => by rw [List.mem_singleton.1 hy]; exact gNB)), w0.off O9 (fun y hy hm => nbk_w0 (by have e := List.mem_singleton.1 hm; subst e; exact hy)), xc0.off O9 (fun y hy hm => nbk_xc0 (by have e := List.mem_singleton.1 hm; subst e; exact hy)), g0.off O9 (fun y hy hm => nbk_g0 (by have e := List.mem_singleton.1 hm; subst e; exact hy)), h0.off O9 (fun y hy hm => nbk_h0 (by have e := List.mem_singleton.1 hm; subst e; exact hy)), R_h0, Y9, dj_w0_h0, dj_xc0_h0, dj_g0_h0, nb_X0_h0, nb_X1_h0, nb_Yw0_h0, nb_Z0_h0, nb_Yg0_h0, G_h0, nbk_w0, nbk_xc0, nbk_g0, nbk_h0⟩
              go_wp2
              go_meet
              case rel => exact FIN
            · rw [if_pos (by rfl)]
              go_simp
              have nbx_X0 : w.heap.size ≠ w29.heap.size := Nat.ne_of_lt X0.lt
              have nbx_X1 : (w.heap.size + 1) ≠ w29.heap.size := Nat.ne_of_lt X1.lt
              have nbx_Yw0 : nbw0 ≠ w29.heap.size := Nat.ne_of_lt Yw0.lt
              have nbx_Z0 : w13.heap.size ≠ w29.heap.size := Nat.ne_of_lt Z0.lt
              have nbx_Yg0 : nbg0 ≠ w29.heap.size := Nat.ne_of_lt Yg0.lt
              have nbk_w0 : w29.heap.size ∉ (bw0_0 ++ (bw0_1 ++ bw0_2)) := fun hm => Nat.lt_irrefl _ (w0.lt _ hm)
              have nbk_xc0 : w29.heap.size ∉ bxc0_0 := fun hm => Nat.lt_irrefl _ (xc0.lt _ hm)
              have nbk_g0 : w29.heap.size ∉ (bg0_0 ++ (bg0_1 ++ bg0_2)) := fun hm => Nat.lt_irrefl _ (g0.lt _ hm)
              have nbk_h0a0 : w29.heap.size ∉ bh0a0_0 := fun hm => Nat.lt_irrefl _ (h0a0.lt _ hm)
              replace X0 := X0.alloc (.cells #[.int .i64 0, .int .i64 0, .slice none 0 0, .slice none 0 0, .int .i64 0, .slice none 0 0, .int .i64 0, .int .i64 0, .int .i64 0, .bool false, .bool false, .int .i64 0, .int .i64 0, .int .i64 0, .int .i64 0, .int .i64 0, .int .i64 0, .int .i64 0] 61)
              replace X1 := X1.alloc (.cells #[.int .i64 0, .int .i64 0, .slice none 0 0, .slice none 0 0, .int .i64 0, .slice none 0 0, .int .i64 0, .int .i64 0, .int .i64 0, .bool false, .bool false, .int .i64 0, .int .i64 0, .int .i64 0, .int .i64 0, .int .i64 0, .int .i64 0, .int .i64 0] 61)
              replace Yw0 := Yw0.alloc (.cells #[.int .i64 0, .int .i64 0, .slice none 0 0, .slice none 0 0, .int .i64 0, .slice none 0 0, .int .i64 0, .int .i64 0, .int .i64 0, .bool false, .bool false, .int .i64 0, .int .i64 0, .int .i64 0, .int .i64 0, .int .i64 0, .int .i64 0, .int .i64 0] 61)
              replace Z0 := Z0.alloc (.cells #[.int .i64 0, .int .i64 0, .slice none 0 0, .slice none 0 0, .int .i64 0, .slice none 0 0, .int .i64 0, .int .i64 0, .int .i64 0, .bool false, .bool false, .int .i64 0, .int .i64 0, .int .i64 0, .int .i64 0, .int .i64 0, .int .i64 0, .int .i64 0] 61)
              replace Yg0 := Yg0.alloc (.cells #[.int .i64 0, .int .i64 0, .slice none 0 0, .slice none 0 0, .int .i64 0, .slice none 0 0, .int .i64 0, .int .i64 0, .int .i64 0, .bool false, .bool false, .int .i64 0, .int .i64 0, .int .i64 0, .int .i64 0, .int .i64 0, .int .i64 0, .int .i64 0] 61)
              replace w0 := w0.alloc (.cells #[.int .i64 0, .int .i64 0, .slice none 0 0, .slice none 0 0, .int .i64 0, .slice none 0 0, .int .i64 0, .int .i64 0, .int .i64 0, .bool false, .bool false, .int .i64 0, .int .i64 0, .int .i64 0, .int .i64 0, .int .i64 0, .int .i64 0, .int .i64 0] 61)
              replace xc0 := xc0.alloc (.cells #[.int .i64 0, .int .i64 0, .slice none 0 0, .slice none 0 0, .int .i64 0, .slice none 0 0, .int .i64 0, .int .i64 0, .int .i64 0, .bool false, .bool false, .int .i64 0, .int .i64 0, .int .i64 0, .int .i64 0, .int .i64 0, .int .i64 0, .int .i64 0] 61)
              replace g0 := g0.alloc (.cells #[.int .i64 0, .int .i64 0, .slice none 0 0, .slice none 0 0, .int .i64 0, .slice none 0 0, .int .i64 0, .int .i64 0, .int .i64 0, .bool false, .bool false, .int .i64 0, .int .i64 0, .int .i64 0, .int .i64 0, .int .i64 0, .int .i64 0, .int .i64 0] 61)
              replace h0a0 := h0a0.alloc (.cells #[.int .i64 0, .int .i64 0, .slice none 0 0, .slice none 0 0, .int .i64 0, .slice none 0 0, .int .i64 0, .int .i64 0, .int .i64 0, .bool false, .bool false, .int .i64 0, .int .i64 0, .int .i64 0, .int .i64 0, .int .i64 0, .int .i64 0, .int .i64 0] 61)
              have NB := Blk.new w29 61 #[.int .i64 0, .int .i64 0, .slice none 0 0, .slice none 0 0, .int .i64 0, .slice none 0 0, .int .i64 0, .int .i64 0, .int .i64 0, .bool false, .bool false, .int .i64 0, .int .i64 0, .int .i64 0, .int .i64 0, .int .i64 0, .int .i64 0, .int .i64 0]
              have gNB : w.heap.size ≤ w29.heap.size := B.size
              replace B := B.alloc B.size (.cells #[.int .i64 0, .int .i64 0, .slice none 0 0, .slice none 0 0, .int .i64 0, .slice none 0 0, .int .i64 0, .int .i64 0, .int .i64 0, .bool false, .bool false, .int .i64 0, .int .i64 0, .int .i64 0, .int .i64 0, .int .i64 0, .int .i64 0, .int .i64 0] 61)
              refine hK.out _ _ ⟨X0, X1⟩ (fun hS => ?_)
              clear hK K
              (try simp only [List.getElem_toArray]); (try simp only [List.getElem_cons_succ]); (try simp only [List.getElem_cons_zero]); (try simp only [Act.put]); (try simp only [List.setIfInBounds_toArray]); (try simp only [List.set_cons_succ]); (try simp only [List.set_cons_zero])
              refine wpAnyH_ready (rs := [4]) (by kernel_rfl) (by simp) ?_
              refine AllReadyH.cons (o := _) rfl (fun K hK => ?_) AllReadyH.nil
              rw [if_pos (by rfl)]
              go_simp
              go_at_call 31
              refine (HI.out _ _ _ (by exact h0a0.rd) (by exact rfl)).mono ?_
              rintro e w31 ⟨u, bh0_0, bh0_1, bh0_2, rfl, h0, fh0_0, fh0_1, fh0_2, hb31⟩
              obtain ⟨cs_h0, e_h0, R_h0⟩ := h0.row
              subst e_h0
              have F_h0 : ∀ y ∈ (bh0_0 ++ (bh0_1 ++ bh0_2)), (w29.alloc (.cells #[.int .i64 0, .int .i64 0, .slice none 0 0, .slice none 0 0, .int .i64 0, .slice none 0 0, .int .i64 0, .int .i64 0, .int .i64 0, .bool false, .bool false, .int .i64 0, .int .i64 0, .int .i64 0, .int .i64 0, .int .i64 0, .int .i64 0, .int .i64 0] 61)).heap.size ≤ y := all_app fh0_0 (all_app fh0_1 fh0_2)
              (try have nbk_h0 : _ ∉ (bh0_0 ++ (bh0_1 ++ bh0_2)) := fun hm => Nat.not_lt.2 (F_h0 _ hm) NB.lt)
              have dj_w0_h0 : Dj (bw0_0 ++ (bw0_1 ++ bw0_2)) (bh0_0 ++ (bh0_1 ++ bh0_2)) := fun y hy hm => Nat.not_lt.2 (F_h0 y hm) (w0.lt y hy)
              have dj_xc0_h0 : Dj bxc0_0 (bh0_0 ++ (bh0_1 ++ bh0_2)) := fun y hy hm => Nat.not_lt.2 (F_h0 y hm) (xc0.lt y hy)
              have dj_g0_h0 : Dj (bg0_0 ++ (bg0_1 ++ bg0_2)) (bh0_0 ++ (bh0_1 ++ bh0_2)) := fun y hy hm => Nat.not_lt.2 (F_h0 y hm) (g0.lt y hy)
              have dj_h0a0_h0 : Dj bh0a0_0 (bh0_0 ++ (bh0_1 ++ bh0_2)) := fun y hy hm => Nat.not_lt.2 (F_h0 y hm) (h0a0.lt y hy)
              have nb_X0_h0 : w.heap.size ∉ (bh0_0 ++ (bh0_1 ++ bh0_2)) := fun hm => Nat.not_lt.2 (F_h0 _ hm) X0.lt
              have nb_X1_h0 : (w.heap.size + 1) ∉ (bh0_0 ++ (bh0_1 ++ bh0_2)) := fun hm => Nat.not_lt.2 (F_h0 _ hm) X1.lt
              have nb_Yw0_h0 : nbw0 ∉ (bh0_0 ++ (bh0_1 ++ bh0_2)) := fun hm => Nat.not_lt.2 (F_h0 _ hm) Yw0.lt
              have nb_Z0_h0 : w13.heap.size ∉ (bh0_0 ++ (bh0_1 ++ bh0_2)) := fun hm => Nat.not_lt.2 (F_h0 _ hm) Z0.lt
              have nb_Yg0_h0 : nbg0 ∉ (bh0_0 ++ (bh0_1 ++ bh0_2)) := fun hm => Nat.not_lt.2 (F_h0 _ hm) Yg0.lt
              have G_h0 : ∀ y ∈ (bh0_0 ++ (bh0_1 ++ bh0_2)), w.heap.size ≤ y := fun y hy => Nat.le_trans B.size (F_h0 y hy)
              clear F_h0
              (try replace NB := NB.keep hb31)
              replace X0 := X0.keep hb31
              replace X1 := X1.keep hb31
              replace Yw0 := Yw0.keep hb31
              replace Z0 := Z0.keep hb31
              replace Yg0 := Yg0.keep hb31
              replace w0 := w0.keep hb31
              replace xc0 := xc0.keep hb31
              replace g0 := g0.keep hb31
              replace h0a0 := h0a0.keep hb31
              replace B := B.trans (hb31.mono B.size)
              clear hb31 fh0_0 fh0_1 fh0_2
              (try dsimp only)
              refine hK.out _ _ ⟨X0, X1⟩ (fun hS => ?_)
              clear hK K
              (try simp only [List.getElem_toArray]); (try simp only [List.getElem_cons_succ]); (try simp only [List.getElem_cons_zero]); (try simp only [Act.put]); (try simp only [List.setIfInBounds_toArray]); (try simp only [List.set_cons_succ]); (try simp only [List.set_cons_zero])
              refine wpAnyH_ready (rs := [6]) (by kernel_rfl) (by simp) ?_
              refine AllReadyH.cons (o := _) rfl (fun K hK => ?_) AllReadyH.nil
              refine step_store_blk rfl 61 _ _ rfl w29.heap.size cs_h0 rfl rfl NB (by rw [R_h0.1]; rfl) (R_h0.hi (by kernel_rfl)) R_h0.2 ?_
              intro w9 Y9 O9
              refine hK.out _ _ ⟨(X0.off O9 (ne_one (nbx_X0))), (X1.off O9 (ne_one (nbx_X1)))⟩ (fun hS => ?_)
              clear hK K
              (try simp only [List.getElem_toArray]); (try simp only [List.getElem_cons_succ]); (try simp only [List.getElem_cons_zero]); (try simp only [Act.put]); (try simp only [List.setIfInBounds_toArray]); (try simp only [List.set_cons_succ]); (try simp only [List.set_cons_zero])
              refine wpAnyH_done (by kernel_rfl) ?_ _
              have FIN : ∃ nz cs_h0 bh0_0 bh0_1 bh0_2, (Value.pointer (some ⟨w29.heap.size, 0, none⟩)) = .pointer (some ⟨nz, 0, none⟩) ∧ Blk w9 w.heap.size 41 cs0 ∧ Blk w9 (w.heap.size + 1) 44 #[.int .i64 x1.xWho, .int .i64 x1.xAt, .int .i64 x1.xBy, .bool x1.xCry] ∧ Blk w9 nbw0 61 cs_w0 ∧ Blk w9 w13.heap.size 51 cs_xc0 ∧ Blk w9 nbg0 61 cs_g0 ∧ Below w.heap.size w w9 ∧ OwNetResult w9 (.agg cs_w0) r bw0_0 bw0_1 bw0_2 ∧ OwTape w9 (.agg cs_xc0) (mkTape 1 x0) bxc0_0 ∧ OwNetResult w9 (.agg cs_g0) (mkNetResult 1 r) bg0_0 bg0_1 bg0_2 ∧ OwNetResult w9 (.agg cs_h0) r bh0_0 bh0_1 bh0_2 ∧ Rw 18 cs_h0 ∧ Blk w9 nz 61 cs_h0 ∧ Dj (bw0_0 ++ (bw0_1 ++ bw0_2)) (bh0_0 ++ (bh0_1 ++ bh0_2)) ∧ Dj bxc0_0 (bh0_0 ++ (bh0_1 ++ bh0_2)) ∧ Dj (bg0_0 ++ (bg0_1 ++ bg0_2)) (bh0_0 ++ (bh0_1 ++ bh0_2)) ∧ w.heap.size ∉ (bh0_0 ++ (bh0_1 ++ bh0_2)) ∧ (w.heap.size + 1) ∉ (bh0_0 ++ (bh0_1 ++ bh0_2)) ∧ nbw0 ∉ (bh0_0 ++ (bh0_1 ++ bh0_2)) ∧ w13.heap.size ∉ (bh0_0 ++ (bh0_1 ++ bh0_2)) ∧ nbg0 ∉ (bh0_0 ++ (bh0_1 ++ bh0_2)) ∧ (∀ y ∈ (bh0_0 ++ (bh0_1 ++ bh0_2)), w.heap.size ≤ y) ∧ nz ∉ (bw0_0 ++ (bw0_1 ++ bw0_2)) ∧ nz ∉ bxc0_0 ∧ nz ∉ (bg0_0 ++ (bg0_1 ++ bg0_2)) ∧ nz ∉ (bh0_0 ++ (bh0_1 ++ bh0_2)) := ⟨w29.heap.size, cs_h0, bh0_0, bh0_1, bh0_2, rfl, X0.off O9 (ne_one (nbx_X0)), X1.off O9 (ne_one (nbx_X1)), Yw0.off O9 (ne_one (nbx_Yw0)), Z0.off O9 (ne_one (nbx_Z0)), Yg0.off O9 (ne_one (nbx_Yg0)), B.trans (O9.toBelow B.size (fun y hy => by rw [List.mem_singleton.1 hy]; exact gNB)), w0.off O9 (fun y hy hm => nbk_w0 (by have e := List.mem_singleton.1 hm; subst e; exact hy)), xc0.off O9 (fun y hy hm => nbk_xc0 (by have e := List.mem_singleton.1 hm; subst e; exact hy)), g0.off O9 (fun y hy hm => nbk_g0 (by have e := List.mem_singleton.1 hm; subst e; exact hy)), h0.off O9 (fun y hy hm => nbk_h0 (by have e := List.mem_singleton.1 hm; subst e; exact hy)), R_h0, Y9, dj_w0_h0, dj_xc0_h0, dj_g0_h0, nb_X0_h0, nb_X1_h0, nb_Yw0_h0, nb_Z0_h0, nb_Yg0_h0, G_h0, nbk_w0, nbk_xc0, nbk_g0, nbk_h0⟩
              go_wp2
              go_meet
              case rel => exact FIN
          · rw [if_pos (by rfl)]
            go_simp
            have nbx_X0 : w.heap.size ≠ w28.heap.size := Nat.ne_of_lt X0.lt
            have nbx_X1 : (w.heap.size + 1) ≠ w28.heap.size := Nat.ne_of_lt X1.lt
            have nbx_Yw0 : nbw0 ≠ w28.heap.size := Nat.ne_of_lt Yw0.lt
            have nbx_Z0 : w13.heap.size ≠ w28.heap.size := Nat.ne_of_lt Z0.lt
            have nbx_Yg0 : nbg0 ≠ w28.heap.size := Nat.ne_of_lt Yg0.lt
            have nbk_w0 : w28.heap.size ∉ (bw0_0 ++ (bw0_1 ++ bw0_2)) := fun hm => Nat.lt_irrefl _ (w0.lt _ hm)
            have nbk_xc0 : w28.heap.size ∉ bxc0_0 := fun hm => Nat.lt_irrefl _ (xc0.lt _ hm)
            have nbk_g0 : w28.heap.size ∉ (bg0_0 ++ (bg0_1 ++ bg0_2)) := fun hm => Nat.lt_irrefl _ (g0.lt _ hm)
            have nbk_h0a0 : w28.heap.size ∉ bh0a0_0 := fun hm => Nat.lt_irrefl _ (h0a0.lt _ hm)
            replace X0 := X0.alloc (.cells #[.int .i64 0, .int .i64 0, .slice none 0 0, .slice none 0 0, .int .i64 0, .slice none 0 0, .int .i64 0, .int .i64 0, .int .i64 0, .bool false, .bool false, .int .i64 0, .int .i64 0, .int .i64 0, .int .i64 0, .int .i64 0, .int .i64 0, .int .i64 0] 61)
            replace X1 := X1.alloc (.cells #[.int .i64 0, .int .i64 0, .slice none 0 0, .slice none 0 0, .int .i64 0, .slice none 0 0, .int .i64 0, .int .i64 0, .int .i64 0, .bool false, .bool false, .int .i64 0, .int .i64 0, .int .i64 0, .int .i64 0, .int .i64 0, .int .i64 0, .int .i64 0] 61)
            replace Yw0 := Yw0.alloc (.cells #[.int .i64 0, .int .i64 0, .slice none 0 0, .slice none 0 0, .int .i64 0, .slice none 0 0, .int .i64 0, .int .i64 0, .int .i64 0, .bool false, .bool false, .int .i64 0, .int .i64 0, .int .i64 0, .int .i64 0, .int .i64 0, .int .i64 0, .int .i64 0] 61)
            replace Z0 := Z0.alloc (.cells #[.int .i64 0, .int .i64 0, .slice none 0 0, .slice none 0 0, .int .i64 0, .slice none 0 0, .int .i64 0, .int .i64 0, .int .i64 0, .bool false, .bool false, .int .i64 0, .int .i64 0, .int .i64 0, .int .i64 0, .int .i64 0, .int .i64 0, .int .i64 0] 61)
            replace Yg0 := Yg0.alloc (.cells #[.int .i64 0, .int .i64 0, .slice none 0 0, .slice none 0 0, .int .i64 0, .slice none 0 0, .int .i64 0, .int .i64 0, .int .i64 0, .bool false, .bool false, .int .i64 0, .int .i64 0, .int .i64 0, .int .i64 0, .int .i64 0, .int .i64 0, .int .i64 0] 61)
            replace w0 := w0.alloc (.cells #[.int .i64 0, .int .i64 0, .slice none 0 0, .slice none 0 0, .int .i64 0, .slice none 0 0, .int .i64 0, .int .i64 0, .int .i64 0, .bool false, .bool false, .int .i64 0, .int .i64 0, .int .i64 0, .int .i64 0, .int .i64 0, .int .i64 0, .int .i64 0] 61)
            replace xc0 := xc0.alloc (.cells #[.int .i64 0, .int .i64 0, .slice none 0 0, .slice none 0 0, .int .i64 0, .slice none 0 0, .int .i64 0, .int .i64 0, .int .i64 0, .bool false, .bool false, .int .i64 0, .int .i64 0, .int .i64 0, .int .i64 0, .int .i64 0, .int .i64 0, .int .i64 0] 61)
            replace g0 := g0.alloc (.cells #[.int .i64 0, .int .i64 0, .slice none 0 0, .slice none 0 0, .int .i64 0, .slice none 0 0, .int .i64 0, .int .i64 0, .int .i64 0, .bool false, .bool false, .int .i64 0, .int .i64 0, .int .i64 0, .int .i64 0, .int .i64 0, .int .i64 0, .int .i64 0] 61)
            replace h0a0 := h0a0.alloc (.cells #[.int .i64 0, .int .i64 0, .slice none 0 0, .slice none 0 0, .int .i64 0, .slice none 0 0, .int .i64 0, .int .i64 0, .int .i64 0, .bool false, .bool false, .int .i64 0, .int .i64 0, .int .i64 0, .int .i64 0, .int .i64 0, .int .i64 0, .int .i64 0] 61)
            have NB := Blk.new w28 61 #[.int .i64 0, .int .i64 0, .slice none 0 0, .slice none 0 0, .int .i64 0, .slice none 0 0, .int .i64 0, .int .i64 0, .int .i64 0, .bool false, .bool false, .int .i64 0, .int .i64 0, .int .i64 0, .int .i64 0, .int .i64 0, .int .i64 0, .int .i64 0]
            have gNB : w.heap.size ≤ w28.heap.size := B.size
            replace B := B.alloc B.size (.cells #[.int .i64 0, .int .i64 0, .slice none 0 0, .slice none 0 0, .int .i64 0, .slice none 0 0, .int .i64 0, .int .i64 0, .int .i64 0, .bool false, .bool false, .int .i64 0, .int .i64 0, .int .i64 0, .int .i64 0, .int .i64 0, .int .i64 0, .int .i64 0] 61)
            refine hK.out _ _ ⟨X0, X1⟩ (fun hS => ?_)
            clear hK K
            (try simp only [List.getElem_toArray]); (try simp only [List.getElem_cons_succ]); (try simp only [List.getElem_cons_zero]); (try simp only [Act.put]); (try simp only [List.setIfInBounds_toArray]); (try simp only [List.set_cons_succ]); (try simp only [List.set_cons_zero])
            refine wpAnyH_ready (rs := [3]) (by kernel_rfl) (by simp) ?_
            refine AllReadyH.cons (o := _) rfl (fun K hK => ?_) AllReadyH.nil
            rw [if_pos (by rfl)]
            go_simp
            go_at_call 30
            refine (toCheat_ow _ x1 _ (by exact rfl)).mono ?_
            rintro e w32 ⟨rfl, hb32⟩
            (try replace NB := NB.keep hb32)
            replace X0 := X0.keep hb32
            replace X1 := X1.keep hb32
            replace Yw0 := Yw0.keep hb32
            replace Z0 := Z0.keep hb32
            replace Yg0 := Yg0.keep hb32
            replace w0 := w0.keep hb32
            replace xc0 := xc0.keep hb32
            replace g0 := g0.keep hb32
            replace h0a0 := h0a0.keep hb32
            replace B := B.trans (hb32.mono B.size)
            clear hb32
            (try dsimp only)
            refine hK.out _ _ ⟨X0, X1⟩ (fun hS => ?_)
            clear hK K
            (try simp only [List.getElem_toArray]); (try simp only [List.getElem_cons_succ]); (try simp only [List.getElem_cons_zero]); (try simp only [Act.put]); (try simp only [List.setIfInBounds_toArray]); (try simp only [List.set_cons_succ]); (try simp only [List.set_cons_zero])
            refine wpAnyH_ready (rs := [4]) (by kernel_rfl) (by simp) ?_
            refine AllReadyH.cons (o := _) rfl (fun K hK => ?_) AllReadyH.nil
            rw [if_pos (by rfl)]
            go_simp
            go_at_call 31
            refine (HI.out _ _ _ (by exact h0a0.rd) (by exact rfl)).mono ?_
            rintro e w33 ⟨u, bh0_0, bh0_1, bh0_2, rfl, h0, fh0_0, fh0_1, fh0_2, hb33⟩
            obtain ⟨cs_h0, e_h0, R_h0⟩ := h0.row
            subst e_h0
            have F_h0 : ∀ y ∈ (bh0_0 ++ (bh0_1 ++ bh0_2)), w32.heap.size ≤ y := all_app fh0_0 (all_app fh0_1 fh0_2)
            (try have nbk_h0 : _ ∉ (bh0_0 ++ (bh0_1 ++ bh0_2)) := fun hm => Nat.not_lt.2 (F_h0 _ hm) NB.lt)
            have dj_w0_h0 : Dj (bw0_0 ++ (bw0_1 ++ bw0_2)) (bh0_0 ++ (bh0_1 ++ bh0_2)) := fun y hy hm => Nat.not_lt.2 (F_h0 y hm) (w0.lt y hy)
            have dj_xc0_h0 : Dj bxc0_0 (bh0_0 ++ (bh0_1 ++ bh0_2)) := fun y hy hm => Nat.not_lt.2 (F_h0 y hm) (xc0.lt y hy)
            have dj_g0_h0 : Dj (bg0_0 ++ (bg0_1 ++ bg0_2)) (bh0_0 ++ (bh0_1 ++ bh0_2)) := fun y hy hm => Nat.not_lt.2 (F_h0 y hm) (g0.lt y hy)
            have dj_h0a0_h0 : Dj bh0a0_0 (bh0_0 ++ (bh0_1 ++ bh0_2)) := fun y hy hm => Nat.not_lt.2 (F_h0 y hm) (h0a0.lt y hy)
            have nb_X0_h0 : w.heap.size ∉ (bh0_0 ++ (bh0_1 ++ bh0_2)) := fun hm => Nat.not_lt.2 (F_h0 _ hm) X0.lt
            have nb_X1_h0 : (w.heap.size + 1) ∉ (bh0_0 ++ (bh0_1 ++ bh0_2)) := fun hm => Nat.not_lt.2 (F_h0 _ hm) X1.lt
            have nb_Yw0_h0 : nbw0 ∉ (bh0_0 ++ (bh0_1 ++ bh0_2)) := fun hm => Nat.not_lt.2 (F_h0 _ hm) Yw0.lt
            have nb_Z0_h0 : w13.heap.size ∉ (bh0_0 ++ (bh0_1 ++ bh0_2)) := fun hm => Nat.not_lt.2 (F_h0 _ hm) Z0.lt
            have nb_Yg0_h0 : nbg0 ∉ (bh0_0 ++ (bh0_1 ++ bh0_2)) := fun hm => Nat.not_lt.2 (F_h0 _ hm) Yg0.lt
            have G_h0 : ∀ y ∈ (bh0_0 ++ (bh0_1 ++ bh0_2)), w.heap.size ≤ y := fun y hy => Nat.le_trans B.size (F_h0 y hy)
            clear F_h0
            (try replace NB := NB.keep hb33)
            replace X0 := X0.keep hb33
            replace X1 := X1.keep hb33
            replace Yw0 := Yw0.keep hb33
            replace Z0 := Z0.keep hb33
            replace Yg0 := Yg0.keep hb33
            replace w0 := w0.keep hb33
            replace xc0 := xc0.keep hb33
            replace g0 := g0.keep hb33
            replace h0a0 := h0a0.keep hb33
            replace B := B.trans (hb33.mono B.size)
            clear hb33 fh0_0 fh0_1 fh0_2
            (try dsimp only)
            refine hK.out _ _ ⟨X0, X1⟩ (fun hS => ?_)
            clear hK K
            (try simp only [List.getElem_toArray]); (try simp only [List.getElem_cons_succ]); (try simp only [List.getElem_cons_zero]); (try simp only [Act.put]); (try simp only [List.setIfInBounds_toArray]); (try simp only [List.set_cons_succ]); (try simp only [List.set_cons_zero])
            refine wpAnyH_ready (rs := [6]) (by kernel_rfl) (by simp) ?_
            refine AllReadyH.cons (o := _) rfl (fun K hK => ?_) AllReadyH.nil
            refine step_store_blk rfl 61 _ _ rfl w28.heap.size cs_h0 rfl rfl NB (by rw [R_h0.1]; rfl) (R_h0.hi (by kernel_rfl)) R_h0.2 ?_
            intro w9 Y9 O9
            refine hK.out _ _ ⟨(X0.off O9 (ne_one (nbx_X0))), (X1.off O9 (ne_one (nbx_X1)))⟩ (fun hS => ?_)
            clear hK K
            (try simp only [List.getElem_toArray]); (try simp only [List.getElem_cons_succ]); (try simp only [List.getElem_cons_zero]); (try simp only [Act.put]); (try simp only [List.setIfInBounds_toArray]); (try simp only [List.set_cons_succ]); (try simp only [List.set_cons_zero])
            refine wpAnyH_done (by kernel_rfl) ?_ _
            have FIN : ∃ nz cs_h0 bh0_0 bh0_1 bh0_2, (Value.pointer (some ⟨w28.heap.size, 0, none⟩)) = .pointer (some ⟨nz, 0, none⟩) ∧ Blk w9 w.heap.size 41 cs0 ∧ Blk w9 (w.heap.size + 1) 44 #[.int .i64 x1.xWho, .int .i64 x1.xAt, .int .i64 x1.xBy, .bool x1.xCry] ∧ Blk w9 nbw0 61 cs_w0 ∧ Blk w9 w13.heap.size 51 cs_xc0 ∧ Blk w9 nbg0 61 cs_g0 ∧ Below w.heap.size w w9 ∧ OwNetResult w9 (.agg cs_w0) r bw0_0 bw0_1 bw0_2 ∧ OwTape w9 (.agg cs_xc0) (mkTape 1 x0) bxc0_0 ∧ OwNetResult w9 (.agg cs_g0) (mkNetResult 1 r) bg0_0 bg0_1 bg0_2 ∧ OwNetResult w9 (.agg cs_h0) r bh0_0 bh0_1 bh0_2 ∧ Rw 18 cs_h0 ∧ Blk w9 nz 61 cs_h0 ∧ Dj (bw0_0 ++ (bw0_1 ++ bw0_2)) (bh0_0 ++ (bh0_1 ++ bh0_2)) ∧ Dj bxc0_0 (bh0_0 ++ (bh0_1 ++ bh0_2)) ∧ Dj (bg0_0 ++ (bg0_1 ++ bg0_2)) (bh0_0 ++ (bh0_1 ++ bh0_2)) ∧ w.heap.size ∉ (bh0_0 ++ (bh0_1 ++ bh0_2)) ∧ (w.heap.size + 1) ∉ (bh0_0 ++ (bh0_1 ++ bh0_2)) ∧ nbw0 ∉ (bh0_0 ++ (bh0_1 ++ bh0_2)) ∧ w13.heap.size ∉ (bh0_0 ++ (bh0_1 ++ bh0_2)) ∧ nbg0 ∉ (bh0_0 ++ (bh0_1 ++ bh0_2)) ∧ (∀ y ∈ (bh0_0 ++ (bh0_1 ++ bh0_2)), w.heap.size ≤ y) ∧ nz ∉ (bw0_0 ++ (bw0_1 ++ bw0_2)) ∧ nz ∉ bxc0_0 ∧ nz ∉ (bg0_0 ++ (bg0_1 ++ bg0_2)) ∧ nz ∉ (bh0_0 ++ (bh0_1 ++ bh0_2)) := ⟨w28.heap.size, cs_h0, bh0_0, bh0_1, bh0_2, rfl, X0.off O9 (ne_one (nbx_X0)), X1.off O9 (ne_one (nbx_X1)), Yw0.off O9 (ne_one (nbx_Yw0)), Z0.off O9 (ne_one (nbx_Z0)), Yg0.off O9 (ne_one (nbx_Yg0)), B.trans (O9.toBelow B.size (fun y hy => by rw [List.mem_singleton.1 hy]; exact gNB)), w0.off O9 (fun y hy hm => nbk_w0 (by have e := List.mem_singleton.1 hm; subst e; exact hy)), xc0.off O9 (fun y hy hm => nbk_xc0 (by have e := List.mem_singleton.1 hm; subst e; exact hy)), g0.off O9 (fun y hy hm => nbk_g0 (by have e := List.mem_singleton.1 hm; subst e; exact hy)), h0.off O9 (fun y hy hm => nbk_h0 (by have e := List.mem_singleton.1 hm; subst e; exact hy)), R_h0, Y9, dj_w0_h0, dj_xc0_h0, dj_g0_h0, nb_X0_h0, nb_X1_h0, nb_Yw0_h0, nb_Z0_h0, nb_Yg0_h0, G_h0, nbk_w0, nbk_xc0, nbk_g0, nbk_h0⟩
            go_wp2
            go_meet
            case rel => exact FIN
        · rw [if_pos (by rfl)]
          go_simp
          have nbx_X0 : w.heap.size ≠ w27.heap.size := Nat.ne_of_lt X0.lt
          have nbx_X1 : (w.heap.size + 1) ≠ w27.heap.size := Nat.ne_of_lt X1.lt
          have nbx_Yw0 : nbw0 ≠ w27.heap.size := Nat.ne_of_lt Yw0.lt
          have nbx_Z0 : w13.heap.size ≠ w27.heap.size := Nat.ne_of_lt Z0.lt
          have nbx_Yg0 : nbg0 ≠ w27.heap.size := Nat.ne_of_lt Yg0.lt
          have nbk_w0 : w27.heap.size ∉ (bw0_0 ++ (bw0_1 ++ bw0_2)) := fun hm => Nat.lt_irrefl _ (w0.lt _ hm)
          have nbk_xc0 : w27.heap.size ∉ bxc0_0 := fun hm => Nat.lt_irrefl _ (xc0.lt _ hm)
          have nbk_g0 : w27.heap.size ∉ (bg0_0 ++ (bg0_1 ++ bg0_2)) := fun hm => Nat.lt_irrefl _ (g0.lt _ hm)
          replace X0 := X0.alloc (.cells #[.int .i64 0, .int .i64 0, .slice none 0 0, .slice none 0 0, .int .i64 0, .slice none 0 0, .int .i64 0, .int .i64 0, .int .i64 0, .bool false, .bool false, .int .i64 0, .int .i64 0, .int .i64 0, .int .i64 0, .int .i64 0, .int .i64 0, .int .i64 0] 61)
          replace X1 := X1.alloc (.cells #[.int .i64 0, .int .i64 0, .slice none 0 0, .slice none 0 0, .int .i64 0, .slice none 0 0, .int .i64 0, .int .i64 0, .int .i64 0, .bool false, .bool false, .int .i64 0, .int .i64 0, .int .i64 0, .int .i64 0, .int .i64 0, .int .i64 0, .int .i64 0] 61)
          replace Yw0 := Yw0.alloc (.cells #[.int .i64 0, .int .i64 0, .slice none 0 0, .slice none 0 0, .int .i64 0, .slice none 0 0, .int .i64 0, .int .i64 0, .int .i64 0, .bool false, .bool false, .int .i64 0, .int .i64 0, .int .i64 0, .int .i64 0, .int .i64 0, .int .i64 0, .int .i64 0] 61)
          replace Z0 := Z0.alloc (.cells #[.int .i64 0, .int .i64 0, .slice none 0 0, .slice none 0 0, .int .i64 0, .slice none 0 0, .int .i64 0, .int .i64 0, .int .i64 0, .bool false, .bool false, .int .i64 0, .int .i64 0, .int .i64 0, .int .i64 0, .int .i64 0, .int .i64 0, .int .i64 0] 61)
          replace Yg0 := Yg0.alloc (.cells #[.int .i64 0, .int .i64 0, .slice none 0 0, .slice none 0 0, .int .i64 0, .slice none 0 0, .int .i64 0, .int .i64 0, .int .i64 0, .bool false, .bool false, .int .i64 0, .int .i64 0, .int .i64 0, .int .i64 0, .int .i64 0, .int .i64 0, .int .i64 0] 61)
          replace w0 := w0.alloc (.cells #[.int .i64 0, .int .i64 0, .slice none 0 0, .slice none 0 0, .int .i64 0, .slice none 0 0, .int .i64 0, .int .i64 0, .int .i64 0, .bool false, .bool false, .int .i64 0, .int .i64 0, .int .i64 0, .int .i64 0, .int .i64 0, .int .i64 0, .int .i64 0] 61)
          replace xc0 := xc0.alloc (.cells #[.int .i64 0, .int .i64 0, .slice none 0 0, .slice none 0 0, .int .i64 0, .slice none 0 0, .int .i64 0, .int .i64 0, .int .i64 0, .bool false, .bool false, .int .i64 0, .int .i64 0, .int .i64 0, .int .i64 0, .int .i64 0, .int .i64 0, .int .i64 0] 61)
          replace g0 := g0.alloc (.cells #[.int .i64 0, .int .i64 0, .slice none 0 0, .slice none 0 0, .int .i64 0, .slice none 0 0, .int .i64 0, .int .i64 0, .int .i64 0, .bool false, .bool false, .int .i64 0, .int .i64 0, .int .i64 0, .int .i64 0, .int .i64 0, .int .i64 0, .int .i64 0] 61)
          have NB := Blk.new w27.drew 61 #[.int .i64 0, .int .i64 0, .slice none 0 0, .slice none 0 0, .int .i64 0, .slice none 0 0, .int .i64 0, .int .i64 0, .int .i64 0, .bool false, .bool false, .int .i64 0, .int .i64 0, .int .i64 0, .int .i64 0, .int .i64 0, .int .i64 0, .int .i64 0]
          have gNB : w.heap.size ≤ w27.heap.size := B.size
          replace B := B.alloc B.size (.cells #[.int .i64 0, .int .i64 0, .slice none 0 0, .slice none 0 0, .int .i64 0, .slice none 0 0, .int .i64 0, .int .i64 0, .int .i64 0, .bool false, .bool false, .int .i64 0, .int .i64 0, .int .i64 0, .int .i64 0, .int .i64 0, .int .i64 0, .int .i64 0] 61)
          refine hK.out _ _ ⟨X0, X1⟩ (fun hS => ?_)
          clear hK K
          (try simp only [List.getElem_toArray]); (try simp only [List.getElem_cons_succ]); (try simp only [List.getElem_cons_zero]); (try simp only [Act.put]); (try simp only [List.setIfInBounds_toArray]); (try simp only [List.set_cons_succ]); (try simp only [List.set_cons_zero])
          refine wpAnyH_ready (rs := [1]) (by kernel_rfl) (by simp) ?_
          refine AllReadyH.cons (o := _) rfl (fun K hK => ?_) AllReadyH.nil
          rw [if_pos (by rfl)]
          go_simp
          go_at_call 29
          refine (toTape_ow _ x0 _ (by exact r0.below B) (by omega)).mono ?_
          rintro e w34 ⟨u, bh0a0_0, rfl, h0a0, fh0a0_0, hb34⟩
          obtain ⟨cs_h0a0, e_h0a0, R_h0a0⟩ := h0a0.row
          subst e_h0a0
          have F_h0a0 : ∀ y ∈ bh0a0_0, (w27.drew.alloc (.cells #[.int .i64 0, .int .i64 0, .slice none 0 0, .slice none 0 0, .int .i64 0, .slice none 0 0, .int .i64 0, .int .i64 0, .int .i64 0, .bool false, .bool false, .int .i64 0, .int .i64 0, .int .i64 0, .int .i64 0, .int .i64 0, .int .i64 0, .int .i64 0] 61)).heap.size ≤ y := fh0a0_0
          (try have nbk_h0a0 : _ ∉ bh0a0_0 := fun hm => Nat.not_lt.2 (F_h0a0 _ hm) NB.lt)
          have dj_w0_h0a0 : Dj (bw0_0 ++ (bw0_1 ++ bw0_2)) bh0a0_0 := fun y hy hm => Nat.not_lt.2 (F_h0a0 y hm) (w0.lt y hy)
          have dj_xc0_h0a0 : Dj bxc0_0 bh0a0_0 := fun y hy hm => Nat.not_lt.2 (F_h0a0 y hm) (xc0.lt y hy)
          have dj_g0_h0a0 : Dj (bg0_0 ++ (bg0_1 ++ bg0_2)) bh0a0_0 := fun y hy hm => Nat.not_lt.2 (F_h0a0 y hm) (g0.lt y hy)
          have nb_X0_h0a0 : w.heap.size ∉ bh0a0_0 := fun hm => Nat.not_lt.2 (F_h0a0 _ hm) X0.lt
          have nb_X1_h0a0 : (w.heap.size + 1) ∉ bh0a0_0 := fun hm => Nat.not_lt.2 (F_h0a0 _ hm) X1.lt
          have nb_Yw0_h0a0 : nbw0 ∉ bh0a0_0 := fun hm => Nat.not_lt.2 (F_h0a0 _ hm) Yw0.lt
          have nb_Z0_h0a0 : w13.heap.size ∉ bh0a0_0 := fun hm => Nat.not_lt.2 (F_h0a0 _ hm) Z0.lt
          have nb_Yg0_h0a0 : nbg0 ∉ bh0a0_0 := fun hm => Nat.not_lt.2 (F_h0a0 _ hm) Yg0.lt
          have G_h0a0 : ∀ y ∈ bh0a0_0, w.heap.size ≤ y := fun y hy => Nat.le_trans B.size (F_h0a0 y hy)
          clear F_h0a0
          (try replace NB := NB.keep hb34)
          replace X0 := X0.keep hb34
          replace X1 := X1.keep hb34
          replace Yw0 := Yw0.keep hb34
          replace Z0 := Z0.keep hb34
          replace Yg0 := Yg0.keep hb34
          replace w0 := w0.keep hb34
          replace xc0 := xc0.keep hb34
          replace g0 := g0.keep hb34
          replace B := B.trans (hb34.mono B.size)
          clear hb34 fh0a0_0
          (try dsimp only)
          refine hK.out _ _ ⟨X0, X1⟩ (fun hS => ?_)
          clear hK K
          (try simp only [List.getElem_toArray]); (try simp only [List.getElem_cons_succ]); (try simp only [List.getElem_cons_zero]); (try simp only [Act.put]); (try simp only [List.setIfInBounds_toArray]); (try simp only [List.set_cons_succ]); (try simp only [List.set_cons_zero])
          refine wpAnyH_ready (rs := [3]) (by kernel_rfl) (by simp) ?_
          refine AllReadyH.cons (o := _) rfl (fun K hK => ?_) AllReadyH.nil
          rw [if_pos (by rfl)]
          go_simp
          go_at_call 30
          refine (toCheat_ow _ x1 _ (by exact rfl)).mono ?_
          rintro e w35 ⟨rfl, hb35⟩
          (try replace NB := NB.keep hb35)
          replace X0 := X0.keep hb35
          replace X1 := X1.keep hb35
          replace Yw0 := Yw0.keep hb35
          replace Z0 := Z0.keep hb35
          replace Yg0 := Yg0.keep hb35
          replace w0 := w0.keep hb35
          replace xc0 := xc0.keep hb35
          replace g0 := g0.keep hb35
          replace h0a0 := h0a0.keep hb35
          replace B := B.trans (hb35.mono B.size)
          clear hb35
          (try dsimp only)
          refine hK.out _ _ ⟨X0, X1⟩ (fun hS => ?_)
          clear hK K
          (try simp only [List.getElem_toArray]); (try simp only [List.getElem_cons_succ]); (try simp only [List.getElem_cons_zero]); (try simp only [Act.put]); (try simp only [List.setIfInBounds_toArray]); (try simp only [List.set_cons_succ]); (try simp only [List.set_cons_zero])
          refine wpAnyH_ready (rs := [4]) (by kernel_rfl) (by simp) ?_
          refine AllReadyH.cons (o := _) rfl (fun K hK => ?_) AllReadyH.nil
          rw [if_pos (by rfl)]
          go_simp
          go_at_call 31
          refine (HI.out _ _ _ (by exact h0a0.rd) (by exact rfl)).mono ?_
          rintro e w36 ⟨u, bh0_0, bh0_1, bh0_2, rfl, h0, fh0_0, fh0_1, fh0_2, hb36⟩
          obtain ⟨cs_h0, e_h0, R_h0⟩ := h0.row
          subst e_h0
          have F_h0 : ∀ y ∈ (bh0_0 ++ (bh0_1 ++ bh0_2)), w35.heap.size ≤ y := all_app fh0_0 (all_app fh0_1 fh0_2)
          (try have nbk_h0 : _ ∉ (bh0_0 ++ (bh0_1 ++ bh0_2)) := fun hm => Nat.not_lt.2 (F_h0 _ hm) NB.lt)
          have dj_w0_h0 : Dj (bw0_0 ++ (bw0_1 ++ bw0_2)) (bh0_0 ++ (bh0_1 ++ bh0_2)) := fun y hy hm => Nat.not_lt.2 (F_h0 y hm) (w0.lt y hy)
          have dj_xc0_h0 : Dj bxc0_0 (bh0_0 ++ (bh0_1 ++ bh0_2)) := fun y hy hm => Nat.not_lt.2 (F_h0 y hm) (xc0.lt y hy)
          have dj_g0_h0 : Dj (bg0_0 ++ (bg0_1 ++ bg0_2)) (bh0_0 ++ (bh0_1 ++ bh0_2)) := fun y hy hm => Nat.not_lt.2 (F_h0 y hm) (g0.lt y hy)
          have dj_h0a0_h0 : Dj bh0a0_0 (bh0_0 ++ (bh0_1 ++ bh0_2)) := fun y hy hm => Nat.not_lt.2 (F_h0 y hm) (h0a0.lt y hy)
          have nb_X0_h0 : w.heap.size ∉ (bh0_0 ++ (bh0_1 ++ bh0_2)) := fun hm => Nat.not_lt.2 (F_h0 _ hm) X0.lt
          have nb_X1_h0 : (w.heap.size + 1) ∉ (bh0_0 ++ (bh0_1 ++ bh0_2)) := fun hm => Nat.not_lt.2 (F_h0 _ hm) X1.lt
          have nb_Yw0_h0 : nbw0 ∉ (bh0_0 ++ (bh0_1 ++ bh0_2)) := fun hm => Nat.not_lt.2 (F_h0 _ hm) Yw0.lt
          have nb_Z0_h0 : w13.heap.size ∉ (bh0_0 ++ (bh0_1 ++ bh0_2)) := fun hm => Nat.not_lt.2 (F_h0 _ hm) Z0.lt
          have nb_Yg0_h0 : nbg0 ∉ (bh0_0 ++ (bh0_1 ++ bh0_2)) := fun hm => Nat.not_lt.2 (F_h0 _ hm) Yg0.lt
          have G_h0 : ∀ y ∈ (bh0_0 ++ (bh0_1 ++ bh0_2)), w.heap.size ≤ y := fun y hy => Nat.le_trans B.size (F_h0 y hy)
          clear F_h0
          (try replace NB := NB.keep hb36)
          replace X0 := X0.keep hb36
          replace X1 := X1.keep hb36
          replace Yw0 := Yw0.keep hb36
          replace Z0 := Z0.keep hb36
          replace Yg0 := Yg0.keep hb36
          replace w0 := w0.keep hb36
          replace xc0 := xc0.keep hb36
          replace g0 := g0.keep hb36
          replace h0a0 := h0a0.keep hb36
          replace B := B.trans (hb36.mono B.size)
          clear hb36 fh0_0 fh0_1 fh0_2
          (try dsimp only)
          refine hK.out _ _ ⟨X0, X1⟩ (fun hS => ?_)
          clear hK K
          (try simp only [List.getElem_toArray]); (try simp only [List.getElem_cons_succ]); (try simp only [List.getElem_cons_zero]); (try simp only [Act.put]); (try simp only [List.setIfInBounds_toArray]); (try simp only [List.set_cons_succ]); (try simp only [List.set_cons_zero])
          refine wpAnyH_ready (rs := [6]) (by kernel_rfl) (by simp) ?_
          refine AllReadyH.cons (o := _) rfl (fun K hK => ?_) AllReadyH.nil
          refine step_store_blk rfl 61 _ _ rfl w27.heap.size cs_h0 rfl rfl NB (by rw [R_h0.1]; rfl) (R_h0.hi (by kernel_rfl)) R_h0.2 ?_
          intro w9 Y9 O9
          refine hK.out _ _ ⟨(X0.off O9 (ne_one (nbx_X0))), (X1.off O9 (ne_one (nbx_X1)))⟩ (fun hS => ?_)
          clear hK K
          (try simp only [List.getElem_toArray]); (try simp only [List.getElem_cons_succ]); (try simp only [List.getElem_cons_zero]); (try simp only [Act.put]); (try simp only [List.setIfInBounds_toArray]); (try simp only [List.set_cons_succ]); (try simp only [List.set_cons_zero])
          refine wpAnyH_done (by kernel_rfl) ?_ _
          have FIN : ∃ nz cs_h0 bh0_0 bh0_1 bh0_2, (Value.pointer (some ⟨w27.heap.size, 0, none⟩)) = .pointer (some ⟨nz, 0, none⟩) ∧ Blk w9 w.heap.size 41 cs0 ∧ Blk w9 (w.heap.size + 1) 44 #[.int .i64 x1.xWho, .int .i64 x1.xAt, .int .i64 x1.xBy, .bool x1.xCry] ∧ Blk w9 nbw0 61 cs_w0 ∧ Blk w9 w13.heap.size 51 cs_xc0 ∧ Blk w9 nbg0 61 cs_g0 ∧ Below w.heap.size w w9 ∧ OwNetResult w9 (.agg cs_w0) r bw0_0 bw0_1 bw0_2 ∧ OwTape w9 (.agg cs_xc0) (mkTape 1 x0) bxc0_0 ∧ OwNetResult w9 (.agg cs_g0) (mkNetResult 1 r) bg0_0 bg0_1 bg0_2 ∧ OwNetResult w9 (.agg cs_h0) r bh0_0 bh0_1 bh0_2 ∧ Rw 18 cs_h0 ∧ Blk w9 nz 61 cs_h0 ∧ Dj (bw0_0 ++ (bw0_1 ++ bw0_2)) (bh0_0 ++ (bh0_1 ++ bh0_2)) ∧ Dj bxc0_0 (bh0_0 ++ (bh0_1 ++ bh0_2)) ∧ Dj (bg0_0 ++ (bg0_1 ++ bg0_2)) (bh0_0 ++ (bh0_1 ++ bh0_2)) ∧ w.heap.size ∉ (bh0_0 ++ (bh0_1 ++ bh0_2)) ∧ (w.heap.size + 1) ∉ (bh0_0 ++ (bh0_1 ++ bh0_2)) ∧ nbw0 ∉ (bh0_0 ++ (bh0_1 ++ bh0_2)) ∧ w13.heap.size ∉ (bh0_0 ++ (bh0_1 ++ bh0_2)) ∧ nbg0 ∉ (bh0_0 ++ (bh0_1 ++ bh0_2)) ∧ (∀ y ∈ (bh0_0 ++ (bh0_1 ++ bh0_2)), w.heap.size ≤ y) ∧ nz ∉ (bw0_0 ++ (bw0_1 ++ bw0_2)) ∧ nz ∉ bxc0_0 ∧ nz ∉ (bg0_0 ++ (bg0_1 ++ bg0_2)) ∧ nz ∉ (bh0_0 ++ (bh0_1 ++ bh0_2)) := ⟨w27.heap.size, cs_h0, bh0_0, bh0_1, bh0_2, rfl, X0.off O9 (ne_one (nbx_X0)), X1.off O9 (ne_one (nbx_X1)), Yw0.off O9 (ne_one (nbx_Yw0)), Z0.off O9 (ne_one (nbx_Z0)), Yg0.off O9 (ne_one (nbx_Yg0)), B.trans (O9.toBelow B.size (fun y hy => by rw [List.mem_singleton.1 hy]; exact gNB)), w0.off O9 (fun y hy hm => nbk_w0 (by have e := List.mem_singleton.1 hm; subst e; exact hy)), xc0.off O9 (fun y hy hm => nbk_xc0 (by have e := List.mem_singleton.1 hm; subst e; exact hy)), g0.off O9 (fun y hy hm => nbk_g0 (by have e := List.mem_singleton.1 hm; subst e; exact hy)), h0.off O9 (fun y hy hm => nbk_h0 (by have e := List.mem_singleton.1 hm; subst e; exact hy)), R_h0, Y9, dj_w0_h0, dj_xc0_h0, dj_g0_h0, nb_X0_h0, nb_X1_h0, nb_Yw0_h0, nb_Z0_h0, nb_Yg0_h0, G_h0, nbk_w0, nbk_xc0, nbk_g0, nbk_h0⟩
          go_wp2
          go_meet
          case rel => exact FIN
      case rest =>
        clear X0 X1 Yw0 Z0 Yg0 B w0 xc0 g0
        obtain ⟨nbh0, cs_h0, bh0_0, bh0_1, bh0_2, rfl, X0, X1, Yw0, Z0, Yg0, B, w0, xc0, g0, h0, R_h0, Yh0, dj_w0_h0, dj_xc0_h0, dj_g0_h0, nb_X0_h0, nb_X1_h0, nb_Yw0_h0, nb_Z0_h0, nb_Yg0_h0, G_h0, nb_Yh0_w0, nb_Yh0_xc0, nb_Yh0_g0, nb_Yh0_h0⟩ := hcut
        obtain ⟨wc37, ewc⟩ : ∃ x : World, x = wc := ⟨_, rfl⟩
        subst ewc
        go_wp2_with (first | (refine wpList_load_blkg (by rfl) 41 _ rfl w.heap.size rfl X0 Try.underlying41 rfl (RC0.hi (by kernel_rfl)) ?_) | (refine wpList_load_blkg (by rfl) 44 _ rfl (w.heap.size + 1) rfl X1 Try.underlying44 rfl (by kernel_rfl) ?_) | (refine wpList_load_blkg (by rfl) 61 _ rfl nbw0 rfl Yw0 Try.underlying61 rfl (R_w0.hi (by kernel_rfl)) ?_) | (refine wpList_load_blkg (by rfl) 51 _ rfl w13.heap.size rfl Z0 Try.underlying51 rfl (R_xc0.hi (by kernel_rfl)) ?_) | (refine wpList_load_blkg (by rfl) 61 _ rfl nbg0 rfl Yg0 Try.underlying61 rfl (R_g0.hi (by kernel_rfl)) ?_) | (refine wpList_load_blkg (by rfl) 61 _ rfl nbh0 rfl Yh0 Try.underlying61 rfl (R_h0.hi (by kernel_rfl)) ?_))
        refine (eqNetResult_rd _ _ r _ (by exact h0.rd) (by exact w0.rd)).mono ?_
        rintro e w38 ⟨rfl, hb38⟩
        replace X0 := X0.keep hb38
        replace X1 := X1.keep hb38
        replace Yw0 := Yw0.keep hb38
        replace Z0 := Z0.keep hb38
        replace Yg0 := Yg0.keep hb38
        replace Yh0 := Yh0.keep hb38
        replace w0 := w0.keep hb38
        replace xc0 := xc0.keep hb38
        replace g0 := g0.keep hb38
        replace h0 := h0.keep hb38
        replace B := B.trans (hb38.mono B.size)
        (try replace NB := NB.keep hb38)
        clear hb38
        go_wp2_with (first | (refine wpList_load_blkg (by rfl) 41 _ rfl w.heap.size rfl X0 Try.underlying41 rfl (RC0.hi (by kernel_rfl)) ?_) | (refine wpList_load_blkg (by rfl) 44 _ rfl (w.heap.size + 1) rfl X1 Try.underlying44 rfl (by kernel_rfl) ?_) | (refine wpList_load_blkg (by rfl) 61 _ rfl nbw0 rfl Yw0 Try.underlying61 rfl (R_w0.hi (by kernel_rfl)) ?_) | (refine wpList_load_blkg (by rfl) 51 _ rfl w13.heap.size rfl Z0 Try.underlying51 rfl (R_xc0.hi (by kernel_rfl)) ?_) | (refine wpList_load_blkg (by rfl) 61 _ rfl nbg0 rfl Yg0 Try.underlying61 rfl (R_g0.hi (by kernel_rfl)) ?_) | (refine wpList_load_blkg (by rfl) 61 _ rfl nbh0 rfl Yh0 Try.underlying61 rfl (R_h0.hi (by kernel_rfl)) ?_))
        refine (heldNetResult_rd _ r _ _ (by exact g0.rd) (by omega) (by omega)).mono ?_
        rintro e w39 ⟨rfl, hb39⟩
        replace X0 := X0.keep hb39
        replace X1 := X1.keep hb39
        replace Yw0 := Yw0.keep hb39
        replace Z0 := Z0.keep hb39
        replace Yg0 := Yg0.keep hb39
        replace Yh0 := Yh0.keep hb39
        replace w0 := w0.keep hb39
        replace xc0 := xc0.keep hb39
        replace g0 := g0.keep hb39
        replace h0 := h0.keep hb39
        replace B := B.trans (hb39.mono B.size)
        (try replace NB := NB.keep hb39)
        clear hb39
        go_wp2
        go_ret
        exact ⟨rfl, B⟩
/-! the row's step -/
set_option maxRecDepth 100000 in
theorem lifted (os : Os) (started : os.Started) (H : Type) (enc : TypeId × Value → H) :
    ReturnsInHanded {} Try.checked os 7 .any (Rows.fnExactNewNetSpec.pre6 enc Try.prog Try.f7 Rows.fnExactNewNetRow.domain false) (Rows.fnExactNewNetSpec.post enc Try.prog Try.f7 false true false false) := by
  refine returnsInHanded_of_change (C := Try.checked) own started (by kernel_rfl) Try.func7
    (ChangeSpec.witness6 (enc := enc) (C := Try.checked) false ⟨#[], #[.agg #[.slice none 0 0], .agg #[.int .i64 0, .int .i64 0, .int .i64 0, .bool false]], []⟩ 8 (by kernel_rfl) (by kernel_rfl) (by kernel_rfl) (by kernel_rfl)) ?_
  intro W base args ds gs before hval0 hW hcnd _
  have hval : ∀ (j : Nat) t v, Try.f7.params[j]? = some t → args[j]? = some v → Value.okWide Try.prog W .any base t v := hval0
  have hW' := hW
  obtain ⟨p, q, hA0, hV, rfl, hfz, hnd⟩ := hW
  have hA : DataW.TrodAll enc Try.prog W 0 (fun _ => true) true Try.f7.params.toList args.toList ds p := hA0
  rw [Try.params7] at hA hval
  obtain ⟨v0, vs0, d0, ds0, p0, q0, hargs, rfl, rfl, h0, r0⟩ := trodAll_cons hA
  obtain ⟨v1, vs1, d1, ds1, p1, q1, rfl, rfl, rfl, h1, r1⟩ := trodAll_cons r0
  obtain ⟨rfl, rfl, rfl⟩ := trodAll_nil r1
  obtain rfl : args = #[v0, v1] := by cases args; simp_all
  obtain ⟨rfl, rfl⟩ := trodVars_none hV
  have k0 := h0
  have lt0 : ∀ x ∈ p0, x.block < W.heap.size := by obtain ⟨m, hm⟩ := k0; exact DataW.trod_lt m _ _ _ hm
  obtain ⟨cs0, rfl, _⟩ := okWide_struct Try.underlying41 (hval 0 41 v0 rfl rfl)
  obtain ⟨x0, w0⟩ : ∃ y, RdTape W (.agg cs0) y := by
    obtain ⟨fuel, hf⟩ := h0
    obtain ⟨y, q⟩ := open_Tape hf
    exact ⟨y, by simpa [Value.cells] using q⟩
  have k1 := h1
  have lt1 : ∀ x ∈ p1, x.block < W.heap.size := by obtain ⟨m, hm⟩ := k1; exact DataW.trod_lt m _ _ _ hm
  obtain ⟨cs1, rfl, _⟩ := okWide_struct Try.underlying44 (hval 1 44 v1 rfl rfl)
  obtain ⟨x1, w1⟩ : ∃ y, RdCheat W (.agg cs1) y := by
    obtain ⟨fuel, hf⟩ := h1
    obtain ⟨y, q⟩ := open_Cheat hf
    exact ⟨y, by simpa [Value.cells] using q⟩
  clear hA0 hval0
  refine (walk _ x0 _ x1 W w0 w1).mono fun e W' ⟨he, bel⟩ => ?_
  subst he
  exact ⟨_, rfl, _, _, _, [], _, [], hW', trodAll_mk1 (shut_bool Try.underlying4 _), (trodAll_cons_mk (Below.trod laidOut (by kernel_rfl) (of_decide_eq_true (by kernel_rfl)) k0 bel lt0) (trodAll_cons_mk (Below.trod laidOut (by kernel_rfl) (of_decide_eq_true (by kernel_rfl)) k1 bel lt1) trodAll_mk0)), rfl, bel.frame _, fun h => by cases h⟩

theorem over : Rows.fnExactNewNetRow.holds Try.pinned (OpenSpec.ofChange Rows.fnExactNewNetSpec) :=
  OpenClaim.holds_of_wide 7 Try.f7 rfl rfl rfl rfl rfl rfl rfl ⟨rfl, rfl, rfl, rfl, rfl⟩ rfl rfl rfl rfl rfl (by kernel_rfl) Try.func7 (by kernel_rfl)
    (of_decide_eq_true (by kernel_rfl)) (by unfold Func.isWrapper; first | (rw [if_pos (by decide +kernel)]; kernel_rfl) | (rw [if_neg (by decide +kernel)]; exact ⟨rfl, rfl⟩))
    (fun os started H enc _ => lifted os started H enc)

end Go.Proofs.Ytadppilldijijaj.fnExactNewNet
namespace Go.Proofs.Ytadppilldijijaj
theorem fnExactNewNet_holds : Rows.FnExactNewNetSaid := fnExactNewNet.over
#print axioms fnExactNewNet_holds
end Go.Proofs.Ytadppilldijijaj
