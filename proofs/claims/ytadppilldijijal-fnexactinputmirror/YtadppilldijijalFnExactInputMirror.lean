/-
  FnExactInputMirror answers true at every net and all whole numbers: the program's InputMirror answers as its model does, writes into no argument, and each answer owns its memory.
-/
import Derived.Test.YtadppilldijijalOpen
import Derived.Test.YtadppilldijijalInC
import Derived.Test.YtadppilldijijalWhole
import Derived.Test.YtadppilldijijalRow
import Derived.Test.YtadppilldijijalOpen
import Derived.Deep.RegionHeld3
import Derived.Deep.CutRange
import Derived.Deep.Cut
import Derived.Deep.RegionWith
import Derived.ShutString
import Derived.ChangeOld
import Derived.Below
namespace Go.Proofs.Ytadppilldijijal.fnExactInputMirror
open Go.ChangeShapes Go.WideShapes Go.ChangeAt Go.RowKit
open Go.ChangeMaps (open_string shut_string)
set_option linter.unusedVariables false

theorem own : ownKnob Try.prog.godebug = none := by kernel_rfl
theorem laidOut : laidOutB Try.prog = true := by kernel_rfl

set_option maxHeartbeats 4000000 in
set_option maxRecDepth 100000 in
theorem walk (v0 : Value) (x0 : MNet) (a1 : Int) (a2 : Int) (w : World) (r0 : RdNet w (v0) x0) (w1 : (Lit.int .i64 a1).wf = true) (w2 : (Lit.int .i64 a2).wf = true) :
    Calls Try.prog 5 #[v0, .int .i64 a1, .int .i64 a2] w fun e w' => e = .returned (.bool true) ∧ Below w.heap.size w w' := by
  obtain ⟨cs, hv, RC⟩ := r0.row
  subst hv
  by_cases s0 : (1048576 : Int) < (totNet x0 : Nat)
  · skip
    go_enter Try.func5, Try.ntmps5
    have X := Blk.new w 43 cs
    go_wp2_with (refine wpList_load_blkg (by rfl) 43 _ rfl w.heap.size rfl X Try.underlying43 rfl (RC.hi (by kernel_rfl)) ?_)
    refine Calls.at (F := fun V => Blk V w.heap.size 43 cs ∧ Below w.heap.size w V) ⟨X, (Below.refl _ _).alloc (Nat.le_refl _) _⟩ ?_
    clear X
    rintro V0 ⟨X, B⟩
    refine (szNet_over _ x0 _ _ (by exact r0.below B) (by omega) (by omega) (by omega)).mono ?_
    rintro e w1 ⟨rfl, hb1⟩
    replace B := B.trans (hb1.mono B.size)
    go_wp2
    go_ret
    exact ⟨rfl, B⟩
  have hc0 := cntNet_le x0
  have KS : ∀ (V : World) (u0 : Value), RdNet V (u0) x0 → Calls Try.prog 15 #[u0, .int .i64 a1, .int .i64 a2] V fun e V' => ∃ u b0 b1 b2 b3, e = .returned u ∧ OwMixResult V' (u) (inputR x0 a1 a2) b0 b1 b2 b3 ∧ (∀ y ∈ b0, V.heap.size ≤ y) ∧ (∀ y ∈ b1, V.heap.size ≤ y) ∧ (∀ y ∈ b2, V.heap.size ≤ y) ∧ (∀ y ∈ b3, V.heap.size ≤ y) ∧ Below V.heap.size V V' := fun V u0 h => spec_InputMirror _ _ _ _ _ h (Fit.of_tot (by omega))
  have KI : ∀ (V : World) (u0 : Value), RdNet V (u0) x0 → Calls Try.prog 17 #[u0, .int .i64 a1, .int .i64 a2] V fun e V' => ∃ u b0 b1 b2 b3, e = .returned u ∧ OwMixResult V' (u) (inputR x0 a1 a2) b0 b1 b2 b3 ∧ (∀ y ∈ b0, V.heap.size ≤ y) ∧ (∀ y ∈ b1, V.heap.size ≤ y) ∧ (∀ y ∈ b2, V.heap.size ≤ y) ∧ (∀ y ∈ b3, V.heap.size ≤ y) ∧ Below V.heap.size V V' := fun V u0 h => impl_InputMirror _ _ _ _ _ h (Fit.of_tot (by omega))
  obtain ⟨r, HS, HI, hcr⟩ : ∃ r : MMixResult, Hid (∀ (V : World) (u0 : Value), RdNet V (u0) x0 → Calls Try.prog 15 #[u0, .int .i64 a1, .int .i64 a2] V fun e V' => ∃ u b0 b1 b2 b3, e = .returned u ∧ OwMixResult V' (u) r b0 b1 b2 b3 ∧ (∀ y ∈ b0, V.heap.size ≤ y) ∧ (∀ y ∈ b1, V.heap.size ≤ y) ∧ (∀ y ∈ b2, V.heap.size ≤ y) ∧ (∀ y ∈ b3, V.heap.size ≤ y) ∧ Below V.heap.size V V') ∧ Hid (∀ (V : World) (u0 : Value), RdNet V (u0) x0 → Calls Try.prog 17 #[u0, .int .i64 a1, .int .i64 a2] V fun e V' => ∃ u b0 b1 b2 b3, e = .returned u ∧ OwMixResult V' (u) r b0 b1 b2 b3 ∧ (∀ y ∈ b0, V.heap.size ≤ y) ∧ (∀ y ∈ b1, V.heap.size ≤ y) ∧ (∀ y ∈ b2, V.heap.size ≤ y) ∧ (∀ y ∈ b3, V.heap.size ≤ y) ∧ Below V.heap.size V V') ∧ cntMixResult r ≤ 268435456 := ⟨inputR x0 a1 a2, KS, KI, inputR_cnt x0 a1 a2 (by omega)⟩
  clear KS KI
  go_enter Try.func5, Try.ntmps5
  have X := Blk.new w 43 cs
  go_wp2_with (refine wpList_load_blkg (by rfl) 43 _ rfl w.heap.size rfl X Try.underlying43 rfl (RC.hi (by kernel_rfl)) ?_)
  refine Calls.at (F := fun V => Blk V w.heap.size 43 cs ∧ Below w.heap.size w V) ⟨X, (Below.refl _ _).alloc (Nat.le_refl _) _⟩ ?_
  clear X
  rintro V0 ⟨X, B⟩
  refine (szNet_fit _ x0 _ _ (by exact r0.below B) (by omega) (by omega) (by omega)).mono ?_
  rintro e w1 ⟨rfl, hb1⟩
  replace X := X.keep hb1
  replace B := B.trans (hb1.mono B.size)
  clear hb1
  go_wp2_with (first | (refine wpList_load_blkg (by rfl) 43 _ rfl w.heap.size rfl X Try.underlying43 rfl (RC.hi (by kernel_rfl)) ?_))
  refine (toNet_ow _ x0 _ (by exact r0.below B) (by omega)).mono ?_
  rintro e w2 ⟨u, bw0a_0, bw0a_1, bw0a_2, rfl, w0a, fw0a_0, fw0a_1, fw0a_2, hb2⟩
  obtain ⟨cs_w0a, e_w0a, R_w0a⟩ := w0a.row
  subst e_w0a
  have F_w0a : ∀ y ∈ (bw0a_0 ++ (bw0a_1 ++ bw0a_2)), w1.heap.size ≤ y := all_app fw0a_0 (all_app fw0a_1 fw0a_2)
  have nb_X_w0a : w.heap.size ∉ (bw0a_0 ++ (bw0a_1 ++ bw0a_2)) := fun hm => Nat.not_lt.2 (F_w0a _ hm) X.lt
  have G_w0a : ∀ y ∈ (bw0a_0 ++ (bw0a_1 ++ bw0a_2)), w.heap.size ≤ y := fun y hy => Nat.le_trans B.size (F_w0a y hy)
  clear F_w0a
  replace X := X.keep hb2
  replace B := B.trans (hb2.mono B.size)
  clear hb2 fw0a_0 fw0a_1 fw0a_2
  go_wp2_with (first | (refine wpList_load_blkg (by rfl) 43 _ rfl w.heap.size rfl X Try.underlying43 rfl (RC.hi (by kernel_rfl)) ?_))
  refine (HS.out _ _ (by exact w0a.rd)).mono ?_
  rintro e w3 ⟨u, bw0_0, bw0_1, bw0_2, bw0_3, rfl, w0, fw0_0, fw0_1, fw0_2, fw0_3, hb3⟩
  obtain ⟨cs_w0, e_w0, R_w0⟩ := w0.row
  subst e_w0
  have F_w0 : ∀ y ∈ (bw0_0 ++ (bw0_1 ++ (bw0_2 ++ bw0_3))), w2.heap.size ≤ y := all_app fw0_0 (all_app fw0_1 (all_app fw0_2 fw0_3))
  have dj_w0a_w0 : Dj (bw0a_0 ++ (bw0a_1 ++ bw0a_2)) (bw0_0 ++ (bw0_1 ++ (bw0_2 ++ bw0_3))) := fun y hy hm => Nat.not_lt.2 (F_w0 y hm) (w0a.lt y hy)
  have nb_X_w0 : w.heap.size ∉ (bw0_0 ++ (bw0_1 ++ (bw0_2 ++ bw0_3))) := fun hm => Nat.not_lt.2 (F_w0 _ hm) X.lt
  have G_w0 : ∀ y ∈ (bw0_0 ++ (bw0_1 ++ (bw0_2 ++ bw0_3))), w.heap.size ≤ y := fun y hy => Nat.le_trans B.size (F_w0 y hy)
  clear F_w0
  replace X := X.keep hb3
  replace w0a := w0a.keep hb3
  replace B := B.trans (hb3.mono B.size)
  clear hb3 fw0_0 fw0_1 fw0_2 fw0_3
  clear w0a G_w0a
  go_wp2_with (first | (refine wpList_store_blk rfl 53 _ _ rfl w3.heap.size cs_w0 rfl rfl (Blk.new _ _ _) (by rw [R_w0.1]; rfl) (R_w0.hi (by kernel_rfl)) R_w0.2 ?_; intro w4 Yw0 o4; have nb_Yw0_w0 : w3.heap.size ∉ (bw0_0 ++ (bw0_1 ++ (bw0_2 ++ bw0_3))) := (fun hm => Nat.lt_irrefl _ (w0.lt _ hm)); replace X := (X.alloc _).off o4 (nbnew X.lt); replace w0 := (w0.alloc _).off o4 (djnew w0.lt); replace B := below_past B o4; clear o4) | (refine wpList_load_blkg (by rfl) 43 _ rfl w.heap.size rfl X Try.underlying43 rfl (RC.hi (by kernel_rfl)) ?_) | (refine wpList_load_blkg (by rfl) 53 _ rfl w3.heap.size rfl Yw0 Try.underlying53 rfl (R_w0.hi (by kernel_rfl)) ?_))
  refine (toNet_ow _ x0 _ (by exact r0.below B) (by omega)).mono ?_
  rintro e w5 ⟨u, bxc_0, bxc_1, bxc_2, rfl, xc, fxc_0, fxc_1, fxc_2, hb5⟩
  obtain ⟨cs_xc, e_xc, R_xc⟩ := xc.row
  subst e_xc
  have F_xc : ∀ y ∈ (bxc_0 ++ (bxc_1 ++ bxc_2)), w4.heap.size ≤ y := all_app fxc_0 (all_app fxc_1 fxc_2)
  have dj_w0_xc : Dj (bw0_0 ++ (bw0_1 ++ (bw0_2 ++ bw0_3))) (bxc_0 ++ (bxc_1 ++ bxc_2)) := fun y hy hm => Nat.not_lt.2 (F_xc y hm) (w0.lt y hy)
  have nb_X_xc : w.heap.size ∉ (bxc_0 ++ (bxc_1 ++ bxc_2)) := fun hm => Nat.not_lt.2 (F_xc _ hm) X.lt
  have nb_Yw0_xc : w3.heap.size ∉ (bxc_0 ++ (bxc_1 ++ bxc_2)) := fun hm => Nat.not_lt.2 (F_xc _ hm) Yw0.lt
  have G_xc : ∀ y ∈ (bxc_0 ++ (bxc_1 ++ bxc_2)), w.heap.size ≤ y := fun y hy => Nat.le_trans B.size (F_xc y hy)
  clear F_xc
  replace X := X.keep hb5
  replace Yw0 := Yw0.keep hb5
  replace w0 := w0.keep hb5
  replace B := B.trans (hb5.mono B.size)
  clear hb5 fxc_0 fxc_1 fxc_2
  go_wp2_with (first | (refine wpList_store_blk rfl 51 _ _ rfl w5.heap.size cs_xc rfl rfl (Blk.new _ _ _) (by rw [R_xc.1]; rfl) (R_xc.hi (by kernel_rfl)) R_xc.2 ?_; intro w6 Z o6; have nb_Z_w0 : w5.heap.size ∉ (bw0_0 ++ (bw0_1 ++ (bw0_2 ++ bw0_3))) := (fun hm => Nat.lt_irrefl _ (w0.lt _ hm)); have nb_Z_xc : w5.heap.size ∉ (bxc_0 ++ (bxc_1 ++ bxc_2)) := (fun hm => Nat.lt_irrefl _ (xc.lt _ hm)); replace X := (X.alloc _).off o6 (nbnew X.lt); replace Yw0 := (Yw0.alloc _).off o6 (nbnew Yw0.lt); replace w0 := (w0.alloc _).off o6 (djnew w0.lt); replace xc := (xc.alloc _).off o6 (djnew xc.lt); replace B := below_past B o6; clear o6) | (refine wpList_load_blkg (by rfl) 43 _ rfl w.heap.size rfl X Try.underlying43 rfl (RC.hi (by kernel_rfl)) ?_) | (refine wpList_load_blkg (by rfl) 53 _ rfl w3.heap.size rfl Yw0 Try.underlying53 rfl (R_w0.hi (by kernel_rfl)) ?_) | (refine wpList_load_blkg (by rfl) 51 _ rfl w5.heap.size rfl Z Try.underlying51 rfl (R_xc.hi (by kernel_rfl)) ?_))
  refine (HI.out _ _ (by exact xc.rd)).mono ?_
  rintro e w7 ⟨u, bg0_0, bg0_1, bg0_2, bg0_3, rfl, g0, fg0_0, fg0_1, fg0_2, fg0_3, hb7⟩
  obtain ⟨cs_g0, e_g0, R_g0⟩ := g0.row
  subst e_g0
  have F_g0 : ∀ y ∈ (bg0_0 ++ (bg0_1 ++ (bg0_2 ++ bg0_3))), w6.heap.size ≤ y := all_app fg0_0 (all_app fg0_1 (all_app fg0_2 fg0_3))
  have dj_w0_g0 : Dj (bw0_0 ++ (bw0_1 ++ (bw0_2 ++ bw0_3))) (bg0_0 ++ (bg0_1 ++ (bg0_2 ++ bg0_3))) := fun y hy hm => Nat.not_lt.2 (F_g0 y hm) (w0.lt y hy)
  have dj_xc_g0 : Dj (bxc_0 ++ (bxc_1 ++ bxc_2)) (bg0_0 ++ (bg0_1 ++ (bg0_2 ++ bg0_3))) := fun y hy hm => Nat.not_lt.2 (F_g0 y hm) (xc.lt y hy)
  have nb_X_g0 : w.heap.size ∉ (bg0_0 ++ (bg0_1 ++ (bg0_2 ++ bg0_3))) := fun hm => Nat.not_lt.2 (F_g0 _ hm) X.lt
  have nb_Yw0_g0 : w3.heap.size ∉ (bg0_0 ++ (bg0_1 ++ (bg0_2 ++ bg0_3))) := fun hm => Nat.not_lt.2 (F_g0 _ hm) Yw0.lt
  have nb_Z_g0 : w5.heap.size ∉ (bg0_0 ++ (bg0_1 ++ (bg0_2 ++ bg0_3))) := fun hm => Nat.not_lt.2 (F_g0 _ hm) Z.lt
  have G_g0 : ∀ y ∈ (bg0_0 ++ (bg0_1 ++ (bg0_2 ++ bg0_3))), w.heap.size ≤ y := fun y hy => Nat.le_trans B.size (F_g0 y hy)
  clear F_g0
  replace X := X.keep hb7
  replace Yw0 := Yw0.keep hb7
  replace Z := Z.keep hb7
  replace w0 := w0.keep hb7
  replace xc := xc.keep hb7
  replace B := B.trans (hb7.mono B.size)
  clear hb7 fg0_0 fg0_1 fg0_2 fg0_3
  go_wp2_with (first | (refine wpList_store_blk rfl 53 _ _ rfl w7.heap.size cs_g0 rfl rfl (Blk.new _ _ _) (by rw [R_g0.1]; rfl) (R_g0.hi (by kernel_rfl)) R_g0.2 ?_; intro w8 Yg0 o8; have nb_Yg0_w0 : w7.heap.size ∉ (bw0_0 ++ (bw0_1 ++ (bw0_2 ++ bw0_3))) := (fun hm => Nat.lt_irrefl _ (w0.lt _ hm)); have nb_Yg0_xc : w7.heap.size ∉ (bxc_0 ++ (bxc_1 ++ bxc_2)) := (fun hm => Nat.lt_irrefl _ (xc.lt _ hm)); have nb_Yg0_g0 : w7.heap.size ∉ (bg0_0 ++ (bg0_1 ++ (bg0_2 ++ bg0_3))) := (fun hm => Nat.lt_irrefl _ (g0.lt _ hm)); replace X := (X.alloc _).off o8 (nbnew X.lt); replace Yw0 := (Yw0.alloc _).off o8 (nbnew Yw0.lt); replace Z := (Z.alloc _).off o8 (nbnew Z.lt); replace w0 := (w0.alloc _).off o8 (djnew w0.lt); replace xc := (xc.alloc _).off o8 (djnew xc.lt); replace g0 := (g0.alloc _).off o8 (djnew g0.lt); replace B := below_past B o8; clear o8) | (refine wpList_load_blkg (by rfl) 43 _ rfl w.heap.size rfl X Try.underlying43 rfl (RC.hi (by kernel_rfl)) ?_) | (refine wpList_load_blkg (by rfl) 53 _ rfl w3.heap.size rfl Yw0 Try.underlying53 rfl (R_w0.hi (by kernel_rfl)) ?_) | (refine wpList_load_blkg (by rfl) 51 _ rfl w5.heap.size rfl Z Try.underlying51 rfl (R_xc.hi (by kernel_rfl)) ?_) | (refine wpList_load_blkg (by rfl) 53 _ rfl w7.heap.size rfl Yg0 Try.underlying53 rfl (R_g0.hi (by kernel_rfl)) ?_))
  refine (eqMixResult_rd _ _ r _ (by exact g0.rd) (by exact w0.rd)).mono ?_
  rintro e w9 ⟨rfl, hb9⟩
  replace X := X.keep hb9
  replace Yw0 := Yw0.keep hb9
  replace Z := Z.keep hb9
  replace Yg0 := Yg0.keep hb9
  replace w0 := w0.keep hb9
  replace xc := xc.keep hb9
  replace g0 := g0.keep hb9
  replace B := B.trans (hb9.mono B.size)
  clear hb9
  go_wp2_with fail
  refine wp_region_held (S := fun V => Blk V w5.heap.size 51 cs_xc ∧ Blk V w.heap.size 43 cs) (by kernel_rfl) ?_
  try (change wpAnyH _ _ _ _ _ _ _ _ (World.drew _))
  have hS : (fun V => Blk V w5.heap.size 51 cs_xc ∧ Blk V w.heap.size 43 cs) _ := ⟨Z.drew, X.drew⟩
  replace X := X.drew
  replace Yw0 := Yw0.drew
  replace Z := Z.drew
  replace Yg0 := Yg0.drew
  replace w0 := w0.drew
  replace xc := xc.drew
  replace g0 := g0.drew
  replace B := B.drew
  refine wpAnyH_take (i := 0) (v := _) rfl (by kernel_rfl) (by kernel_rfl) (by kernel_rfl) (fun _ _ _ h => h) (yieldsIf_load_mid (by rfl) _ _ rfl _ _ rfl _ _ (fun _ h => h.1.range) Try.underlying51 rfl (by simpa using R_xc.hi (by kernel_rfl))) hS ?_
  (try simp only [List.getElem_toArray]); (try simp only [List.getElem_cons_succ]); (try simp only [List.getElem_cons_zero]); (try simp only [Act.put]); (try simp only [List.setIfInBounds_toArray]); (try simp only [List.set_cons_succ]); (try simp only [List.set_cons_zero])
  refine wpAnyH_take (i := 1) (v := _) rfl (by kernel_rfl) (by kernel_rfl) (by kernel_rfl) (fun _ _ _ h => h) (yieldsIf_load_mid (by rfl) _ _ rfl _ _ rfl _ _ (fun _ h => h.2.range) Try.underlying43 rfl (by simpa using RC.hi (by kernel_rfl))) hS ?_
  (try simp only [List.getElem_toArray]); (try simp only [List.getElem_cons_succ]); (try simp only [List.getElem_cons_zero]); (try simp only [Act.put]); (try simp only [List.setIfInBounds_toArray]); (try simp only [List.set_cons_succ]); (try simp only [List.set_cons_zero])
  refine wpAnyH_ready (rs := [2]) (by kernel_rfl) (by simp) ?_
  refine AllReadyH.cons (o := _) rfl (fun K hK => ?_) AllReadyH.nil
  rw [if_pos (by rfl)]
  go_simp
  go_at_call 16
  refine (toNet_ow _ x0 _ (by exact r0.below B) (by omega)).mono ?_
  rintro e w10 ⟨u, by_0, by_1, by_2, rfl, y, fy_0, fy_1, fy_2, hb10⟩
  obtain ⟨cs_y, e_y, R_y⟩ := y.row
  subst e_y
  have F_y : ∀ y ∈ (by_0 ++ (by_1 ++ by_2)), w9.drew.heap.size ≤ y := all_app fy_0 (all_app fy_1 fy_2)
  have dj_w0_y : Dj (bw0_0 ++ (bw0_1 ++ (bw0_2 ++ bw0_3))) (by_0 ++ (by_1 ++ by_2)) := fun y hy hm => Nat.not_lt.2 (F_y y hm) (w0.lt y hy)
  have dj_xc_y : Dj (bxc_0 ++ (bxc_1 ++ bxc_2)) (by_0 ++ (by_1 ++ by_2)) := fun y hy hm => Nat.not_lt.2 (F_y y hm) (xc.lt y hy)
  have dj_g0_y : Dj (bg0_0 ++ (bg0_1 ++ (bg0_2 ++ bg0_3))) (by_0 ++ (by_1 ++ by_2)) := fun y hy hm => Nat.not_lt.2 (F_y y hm) (g0.lt y hy)
  have nb_X_y : w.heap.size ∉ (by_0 ++ (by_1 ++ by_2)) := fun hm => Nat.not_lt.2 (F_y _ hm) X.lt
  have nb_Yw0_y : w3.heap.size ∉ (by_0 ++ (by_1 ++ by_2)) := fun hm => Nat.not_lt.2 (F_y _ hm) Yw0.lt
  have nb_Z_y : w5.heap.size ∉ (by_0 ++ (by_1 ++ by_2)) := fun hm => Nat.not_lt.2 (F_y _ hm) Z.lt
  have nb_Yg0_y : w7.heap.size ∉ (by_0 ++ (by_1 ++ by_2)) := fun hm => Nat.not_lt.2 (F_y _ hm) Yg0.lt
  have G_y : ∀ y ∈ (by_0 ++ (by_1 ++ by_2)), w.heap.size ≤ y := fun y hy => Nat.le_trans B.size (F_y y hy)
  clear F_y
  replace X := X.keep hb10
  replace Yw0 := Yw0.keep hb10
  replace Z := Z.keep hb10
  replace Yg0 := Yg0.keep hb10
  replace w0 := w0.keep hb10
  replace xc := xc.keep hb10
  replace g0 := g0.keep hb10
  replace B := B.trans (hb10.mono B.size)
  clear hb10 fy_0 fy_1 fy_2
  dsimp only
  refine hK.out _ _ ⟨Z, X⟩ (fun hS => ?_)
  clear hK K
  (try simp only [List.getElem_toArray]); (try simp only [List.getElem_cons_succ]); (try simp only [List.getElem_cons_zero]); (try simp only [Act.put]); (try simp only [List.setIfInBounds_toArray]); (try simp only [List.set_cons_succ]); (try simp only [List.set_cons_zero])
  refine wpAnyH_ready (rs := [3]) (by kernel_rfl) (by simp) ?_
  refine AllReadyH.cons (o := _) rfl (fun K hK => ?_) AllReadyH.nil
  rw [if_pos (by rfl)]
  go_simp
  go_at_call 19
  refine (eqNet_rd _ _ x0 _ (by exact xc.rd) (by exact y.rd)).mono ?_
  rintro e w11 ⟨rfl, hb11⟩
  replace X := X.keep hb11
  replace Yw0 := Yw0.keep hb11
  replace Z := Z.keep hb11
  replace Yg0 := Yg0.keep hb11
  replace w0 := w0.keep hb11
  replace xc := xc.keep hb11
  replace g0 := g0.keep hb11
  replace y := y.keep hb11
  replace B := B.trans (hb11.mono B.size)
  clear hb11
  dsimp only
  refine hK.out _ _ ⟨Z, X⟩ (fun hS => ?_)
  clear hK K
  (try simp only [List.getElem_toArray]); (try simp only [List.getElem_cons_succ]); (try simp only [List.getElem_cons_zero]); (try simp only [Act.put]); (try simp only [List.setIfInBounds_toArray]); (try simp only [List.set_cons_succ]); (try simp only [List.set_cons_zero])
  refine wpAnyH_take (i := 4) (v := .bool false) rfl (by kernel_rfl) (by kernel_rfl) (by kernel_rfl) (fun _ _ _ h => h) (Or.inl ⟨by rfl, ?_⟩) hS ?_
  · intro w' hSw
    go_simp
  (try simp only [List.getElem_toArray]); (try simp only [List.getElem_cons_succ]); (try simp only [List.getElem_cons_zero]); (try simp only [Act.put]); (try simp only [List.setIfInBounds_toArray]); (try simp only [List.set_cons_succ]); (try simp only [List.set_cons_zero])
  refine wpAnyH_done (by kernel_rfl) ?_ _
  clear y G_y
  clear hS
  go_wp2_with (first | (refine wpList_load_blkg (by rfl) 43 _ rfl w.heap.size rfl X Try.underlying43 rfl (RC.hi (by kernel_rfl)) ?_) | (refine wpList_load_blkg (by rfl) 53 _ rfl w3.heap.size rfl Yw0 Try.underlying53 rfl (R_w0.hi (by kernel_rfl)) ?_) | (refine wpList_load_blkg (by rfl) 51 _ rfl w5.heap.size rfl Z Try.underlying51 rfl (R_xc.hi (by kernel_rfl)) ?_) | (refine wpList_load_blkg (by rfl) 53 _ rfl w7.heap.size rfl Yg0 Try.underlying53 rfl (R_g0.hi (by kernel_rfl)) ?_))
  refine (markNet_ow _ x0 bxc_0 bxc_1 bxc_2 _ _ (by exact xc) (by omega) (by omega)).mono ?_
  rintro e w12 ⟨rfl, mm, oo⟩
  replace X := X.off oo nb_X_xc
  replace Yw0 := Yw0.off oo nb_Yw0_xc
  replace Z := Z.off oo nb_Z_xc
  replace Yg0 := Yg0.off oo nb_Yg0_xc
  replace w0 := w0.off oo dj_w0_xc
  replace g0 := g0.off oo dj_xc_g0.symm
  replace B := B.trans (oo.toBelow B.size G_xc)
  clear xc oo
  have xc := mm
  clear mm
  go_wp2_with (first | (refine wpList_load_blkg (by rfl) 43 _ rfl w.heap.size rfl X Try.underlying43 rfl (RC.hi (by kernel_rfl)) ?_) | (refine wpList_load_blkg (by rfl) 53 _ rfl w3.heap.size rfl Yw0 Try.underlying53 rfl (R_w0.hi (by kernel_rfl)) ?_) | (refine wpList_load_blkg (by rfl) 51 _ rfl w5.heap.size rfl Z Try.underlying51 rfl (R_xc.hi (by kernel_rfl)) ?_) | (refine wpList_load_blkg (by rfl) 53 _ rfl w7.heap.size rfl Yg0 Try.underlying53 rfl (R_g0.hi (by kernel_rfl)) ?_))
  refine (eqMixResult_rd _ _ r _ (by exact g0.rd) (by exact w0.rd)).mono ?_
  rintro e w13 ⟨rfl, hb13⟩
  replace X := X.keep hb13
  replace Yw0 := Yw0.keep hb13
  replace Z := Z.keep hb13
  replace Yg0 := Yg0.keep hb13
  replace w0 := w0.keep hb13
  replace xc := xc.keep hb13
  replace g0 := g0.keep hb13
  replace B := B.trans (hb13.mono B.size)
  clear hb13
  go_wp2_with (first | (refine wpList_load_blkg (by rfl) 43 _ rfl w.heap.size rfl X Try.underlying43 rfl (RC.hi (by kernel_rfl)) ?_) | (refine wpList_load_blkg (by rfl) 53 _ rfl w3.heap.size rfl Yw0 Try.underlying53 rfl (R_w0.hi (by kernel_rfl)) ?_) | (refine wpList_load_blkg (by rfl) 51 _ rfl w5.heap.size rfl Z Try.underlying51 rfl (R_xc.hi (by kernel_rfl)) ?_) | (refine wpList_load_blkg (by rfl) 53 _ rfl w7.heap.size rfl Yg0 Try.underlying53 rfl (R_g0.hi (by kernel_rfl)) ?_))
  refine (markMixResult_ow _ r bg0_0 bg0_1 bg0_2 bg0_3 _ _ (by exact g0) (by omega) (by omega)).mono ?_
  rintro e w14 ⟨rfl, mm, oo⟩
  replace X := X.off oo nb_X_g0
  replace Yw0 := Yw0.off oo nb_Yw0_g0
  replace Z := Z.off oo nb_Z_g0
  replace Yg0 := Yg0.off oo nb_Yg0_g0
  replace w0 := w0.off oo dj_w0_g0
  replace xc := xc.off oo dj_xc_g0
  replace B := B.trans (oo.toBelow B.size G_g0)
  clear g0 oo
  have g0 := mm
  clear mm
  go_wp2_with (first | (refine wpList_load_blkg (by rfl) 43 _ rfl w.heap.size rfl X Try.underlying43 rfl (RC.hi (by kernel_rfl)) ?_) | (refine wpList_load_blkg (by rfl) 53 _ rfl w3.heap.size rfl Yw0 Try.underlying53 rfl (R_w0.hi (by kernel_rfl)) ?_) | (refine wpList_load_blkg (by rfl) 51 _ rfl w5.heap.size rfl Z Try.underlying51 rfl (R_xc.hi (by kernel_rfl)) ?_) | (refine wpList_load_blkg (by rfl) 53 _ rfl w7.heap.size rfl Yg0 Try.underlying53 rfl (R_g0.hi (by kernel_rfl)) ?_))
  refine (heldMixResult_rd _ r _ _ (by exact g0.rd) (by omega) (by omega)).mono ?_
  rintro e w15 ⟨rfl, hb15⟩
  replace X := X.keep hb15
  replace Yw0 := Yw0.keep hb15
  replace Z := Z.keep hb15
  replace Yg0 := Yg0.keep hb15
  replace w0 := w0.keep hb15
  replace xc := xc.keep hb15
  replace g0 := g0.keep hb15
  replace B := B.trans (hb15.mono B.size)
  clear hb15
  go_wp2_with (first | (refine wpList_load_blkg (by rfl) 43 _ rfl w.heap.size rfl X Try.underlying43 rfl (RC.hi (by kernel_rfl)) ?_) | (refine wpList_load_blkg (by rfl) 53 _ rfl w3.heap.size rfl Yw0 Try.underlying53 rfl (R_w0.hi (by kernel_rfl)) ?_) | (refine wpList_load_blkg (by rfl) 51 _ rfl w5.heap.size rfl Z Try.underlying51 rfl (R_xc.hi (by kernel_rfl)) ?_) | (refine wpList_load_blkg (by rfl) 53 _ rfl w7.heap.size rfl Yg0 Try.underlying53 rfl (R_g0.hi (by kernel_rfl)) ?_))
  refine (toNet_ow _ x0 _ (by exact r0.below B) (by omega)).mono ?_
  rintro e w16 ⟨u, bh0a_0, bh0a_1, bh0a_2, rfl, h0a, fh0a_0, fh0a_1, fh0a_2, hb16⟩
  obtain ⟨cs_h0a, e_h0a, R_h0a⟩ := h0a.row
  subst e_h0a
  have F_h0a : ∀ y ∈ (bh0a_0 ++ (bh0a_1 ++ bh0a_2)), w15.heap.size ≤ y := all_app fh0a_0 (all_app fh0a_1 fh0a_2)
  have dj_w0_h0a : Dj (bw0_0 ++ (bw0_1 ++ (bw0_2 ++ bw0_3))) (bh0a_0 ++ (bh0a_1 ++ bh0a_2)) := fun y hy hm => Nat.not_lt.2 (F_h0a y hm) (w0.lt y hy)
  have dj_xc_h0a : Dj (bxc_0 ++ (bxc_1 ++ bxc_2)) (bh0a_0 ++ (bh0a_1 ++ bh0a_2)) := fun y hy hm => Nat.not_lt.2 (F_h0a y hm) (xc.lt y hy)
  have dj_g0_h0a : Dj (bg0_0 ++ (bg0_1 ++ (bg0_2 ++ bg0_3))) (bh0a_0 ++ (bh0a_1 ++ bh0a_2)) := fun y hy hm => Nat.not_lt.2 (F_h0a y hm) (g0.lt y hy)
  have nb_X_h0a : w.heap.size ∉ (bh0a_0 ++ (bh0a_1 ++ bh0a_2)) := fun hm => Nat.not_lt.2 (F_h0a _ hm) X.lt
  have nb_Yw0_h0a : w3.heap.size ∉ (bh0a_0 ++ (bh0a_1 ++ bh0a_2)) := fun hm => Nat.not_lt.2 (F_h0a _ hm) Yw0.lt
  have nb_Z_h0a : w5.heap.size ∉ (bh0a_0 ++ (bh0a_1 ++ bh0a_2)) := fun hm => Nat.not_lt.2 (F_h0a _ hm) Z.lt
  have nb_Yg0_h0a : w7.heap.size ∉ (bh0a_0 ++ (bh0a_1 ++ bh0a_2)) := fun hm => Nat.not_lt.2 (F_h0a _ hm) Yg0.lt
  have G_h0a : ∀ y ∈ (bh0a_0 ++ (bh0a_1 ++ bh0a_2)), w.heap.size ≤ y := fun y hy => Nat.le_trans B.size (F_h0a y hy)
  clear F_h0a
  replace X := X.keep hb16
  replace Yw0 := Yw0.keep hb16
  replace Z := Z.keep hb16
  replace Yg0 := Yg0.keep hb16
  replace w0 := w0.keep hb16
  replace xc := xc.keep hb16
  replace g0 := g0.keep hb16
  replace B := B.trans (hb16.mono B.size)
  clear hb16 fh0a_0 fh0a_1 fh0a_2
  go_wp2_with (first | (refine wpList_load_blkg (by rfl) 43 _ rfl w.heap.size rfl X Try.underlying43 rfl (RC.hi (by kernel_rfl)) ?_) | (refine wpList_load_blkg (by rfl) 53 _ rfl w3.heap.size rfl Yw0 Try.underlying53 rfl (R_w0.hi (by kernel_rfl)) ?_) | (refine wpList_load_blkg (by rfl) 51 _ rfl w5.heap.size rfl Z Try.underlying51 rfl (R_xc.hi (by kernel_rfl)) ?_) | (refine wpList_load_blkg (by rfl) 53 _ rfl w7.heap.size rfl Yg0 Try.underlying53 rfl (R_g0.hi (by kernel_rfl)) ?_))
  refine (HI.out _ _ (by exact h0a.rd)).mono ?_
  rintro e w17 ⟨u, bh0_0, bh0_1, bh0_2, bh0_3, rfl, h0, fh0_0, fh0_1, fh0_2, fh0_3, hb17⟩
  obtain ⟨cs_h0, e_h0, R_h0⟩ := h0.row
  subst e_h0
  have F_h0 : ∀ y ∈ (bh0_0 ++ (bh0_1 ++ (bh0_2 ++ bh0_3))), w16.heap.size ≤ y := all_app fh0_0 (all_app fh0_1 (all_app fh0_2 fh0_3))
  have dj_w0_h0 : Dj (bw0_0 ++ (bw0_1 ++ (bw0_2 ++ bw0_3))) (bh0_0 ++ (bh0_1 ++ (bh0_2 ++ bh0_3))) := fun y hy hm => Nat.not_lt.2 (F_h0 y hm) (w0.lt y hy)
  have dj_xc_h0 : Dj (bxc_0 ++ (bxc_1 ++ bxc_2)) (bh0_0 ++ (bh0_1 ++ (bh0_2 ++ bh0_3))) := fun y hy hm => Nat.not_lt.2 (F_h0 y hm) (xc.lt y hy)
  have dj_g0_h0 : Dj (bg0_0 ++ (bg0_1 ++ (bg0_2 ++ bg0_3))) (bh0_0 ++ (bh0_1 ++ (bh0_2 ++ bh0_3))) := fun y hy hm => Nat.not_lt.2 (F_h0 y hm) (g0.lt y hy)
  have dj_h0a_h0 : Dj (bh0a_0 ++ (bh0a_1 ++ bh0a_2)) (bh0_0 ++ (bh0_1 ++ (bh0_2 ++ bh0_3))) := fun y hy hm => Nat.not_lt.2 (F_h0 y hm) (h0a.lt y hy)
  have nb_X_h0 : w.heap.size ∉ (bh0_0 ++ (bh0_1 ++ (bh0_2 ++ bh0_3))) := fun hm => Nat.not_lt.2 (F_h0 _ hm) X.lt
  have nb_Yw0_h0 : w3.heap.size ∉ (bh0_0 ++ (bh0_1 ++ (bh0_2 ++ bh0_3))) := fun hm => Nat.not_lt.2 (F_h0 _ hm) Yw0.lt
  have nb_Z_h0 : w5.heap.size ∉ (bh0_0 ++ (bh0_1 ++ (bh0_2 ++ bh0_3))) := fun hm => Nat.not_lt.2 (F_h0 _ hm) Z.lt
  have nb_Yg0_h0 : w7.heap.size ∉ (bh0_0 ++ (bh0_1 ++ (bh0_2 ++ bh0_3))) := fun hm => Nat.not_lt.2 (F_h0 _ hm) Yg0.lt
  have G_h0 : ∀ y ∈ (bh0_0 ++ (bh0_1 ++ (bh0_2 ++ bh0_3))), w.heap.size ≤ y := fun y hy => Nat.le_trans B.size (F_h0 y hy)
  clear F_h0
  replace X := X.keep hb17
  replace Yw0 := Yw0.keep hb17
  replace Z := Z.keep hb17
  replace Yg0 := Yg0.keep hb17
  replace w0 := w0.keep hb17
  replace xc := xc.keep hb17
  replace g0 := g0.keep hb17
  replace h0a := h0a.keep hb17
  replace B := B.trans (hb17.mono B.size)
  clear hb17 fh0_0 fh0_1 fh0_2 fh0_3
  clear h0a G_h0a
  go_wp2_with (first | (refine wpList_store_blk rfl 53 _ _ rfl w17.heap.size cs_h0 rfl rfl (Blk.new _ _ _) (by rw [R_h0.1]; rfl) (R_h0.hi (by kernel_rfl)) R_h0.2 ?_; intro w18 Yh0 o18; have nb_Yh0_w0 : w17.heap.size ∉ (bw0_0 ++ (bw0_1 ++ (bw0_2 ++ bw0_3))) := (fun hm => Nat.lt_irrefl _ (w0.lt _ hm)); have nb_Yh0_xc : w17.heap.size ∉ (bxc_0 ++ (bxc_1 ++ bxc_2)) := (fun hm => Nat.lt_irrefl _ (xc.lt _ hm)); have nb_Yh0_g0 : w17.heap.size ∉ (bg0_0 ++ (bg0_1 ++ (bg0_2 ++ bg0_3))) := (fun hm => Nat.lt_irrefl _ (g0.lt _ hm)); have nb_Yh0_h0 : w17.heap.size ∉ (bh0_0 ++ (bh0_1 ++ (bh0_2 ++ bh0_3))) := (fun hm => Nat.lt_irrefl _ (h0.lt _ hm)); replace X := (X.alloc _).off o18 (nbnew X.lt); replace Yw0 := (Yw0.alloc _).off o18 (nbnew Yw0.lt); replace Z := (Z.alloc _).off o18 (nbnew Z.lt); replace Yg0 := (Yg0.alloc _).off o18 (nbnew Yg0.lt); replace w0 := (w0.alloc _).off o18 (djnew w0.lt); replace xc := (xc.alloc _).off o18 (djnew xc.lt); replace g0 := (g0.alloc _).off o18 (djnew g0.lt); replace h0 := (h0.alloc _).off o18 (djnew h0.lt); replace B := below_past B o18; clear o18) | (refine wpList_load_blkg (by rfl) 43 _ rfl w.heap.size rfl X Try.underlying43 rfl (RC.hi (by kernel_rfl)) ?_) | (refine wpList_load_blkg (by rfl) 53 _ rfl w3.heap.size rfl Yw0 Try.underlying53 rfl (R_w0.hi (by kernel_rfl)) ?_) | (refine wpList_load_blkg (by rfl) 51 _ rfl w5.heap.size rfl Z Try.underlying51 rfl (R_xc.hi (by kernel_rfl)) ?_) | (refine wpList_load_blkg (by rfl) 53 _ rfl w7.heap.size rfl Yg0 Try.underlying53 rfl (R_g0.hi (by kernel_rfl)) ?_) | (refine wpList_load_blkg (by rfl) 53 _ rfl w17.heap.size rfl Yh0 Try.underlying53 rfl (R_h0.hi (by kernel_rfl)) ?_))
  refine (eqMixResult_rd _ _ r _ (by exact h0.rd) (by exact w0.rd)).mono ?_
  rintro e w19 ⟨rfl, hb19⟩
  replace X := X.keep hb19
  replace Yw0 := Yw0.keep hb19
  replace Z := Z.keep hb19
  replace Yg0 := Yg0.keep hb19
  replace Yh0 := Yh0.keep hb19
  replace w0 := w0.keep hb19
  replace xc := xc.keep hb19
  replace g0 := g0.keep hb19
  replace h0 := h0.keep hb19
  replace B := B.trans (hb19.mono B.size)
  clear hb19
  go_wp2_with (first | (refine wpList_load_blkg (by rfl) 43 _ rfl w.heap.size rfl X Try.underlying43 rfl (RC.hi (by kernel_rfl)) ?_) | (refine wpList_load_blkg (by rfl) 53 _ rfl w3.heap.size rfl Yw0 Try.underlying53 rfl (R_w0.hi (by kernel_rfl)) ?_) | (refine wpList_load_blkg (by rfl) 51 _ rfl w5.heap.size rfl Z Try.underlying51 rfl (R_xc.hi (by kernel_rfl)) ?_) | (refine wpList_load_blkg (by rfl) 53 _ rfl w7.heap.size rfl Yg0 Try.underlying53 rfl (R_g0.hi (by kernel_rfl)) ?_) | (refine wpList_load_blkg (by rfl) 53 _ rfl w17.heap.size rfl Yh0 Try.underlying53 rfl (R_h0.hi (by kernel_rfl)) ?_))
  refine (heldMixResult_rd _ r _ _ (by exact g0.rd) (by omega) (by omega)).mono ?_
  rintro e w20 ⟨rfl, hb20⟩
  replace X := X.keep hb20
  replace Yw0 := Yw0.keep hb20
  replace Z := Z.keep hb20
  replace Yg0 := Yg0.keep hb20
  replace Yh0 := Yh0.keep hb20
  replace w0 := w0.keep hb20
  replace xc := xc.keep hb20
  replace g0 := g0.keep hb20
  replace h0 := h0.keep hb20
  replace B := B.trans (hb20.mono B.size)
  clear hb20
  go_wp2
  go_ret
  exact ⟨rfl, B⟩
/-! the row's step -/
set_option maxRecDepth 100000 in
theorem lifted (os : Os) (started : os.Started) (H : Type) (enc : TypeId × Value → H) :
    ReturnsInHanded {} Try.checked os 5 .any (Rows.fnExactInputMirrorSpec.pre6 enc Try.prog Try.f5 Rows.fnExactInputMirrorRow.domain false) (Rows.fnExactInputMirrorSpec.post enc Try.prog Try.f5 false true false false) := by
  refine returnsInHanded_of_change (C := Try.checked) own started (by kernel_rfl) Try.func5
    (ChangeSpec.witness6 (enc := enc) (C := Try.checked) false ⟨#[], #[.agg #[.slice none 0 0, .slice none 0 0, .int .i64 0, .slice none 0 0, .int .i64 0, .int .i64 0, .int .i64 0, .bool false, .bool false, .int .i64 0, .int .i64 0, .int .i64 0, .int .i64 0, .int .i64 0, .int .i64 0, .int .i64 0], .int .i64 0, .int .i64 0], []⟩ 8 (by kernel_rfl) (by kernel_rfl) (by kernel_rfl) (by kernel_rfl)) ?_
  intro W base args ds gs before hval0 hW hcnd _
  have hval : ∀ (j : Nat) t v, Try.f5.params[j]? = some t → args[j]? = some v → Value.okWide Try.prog W .any base t v := hval0
  have hW' := hW
  obtain ⟨p, q, hA0, hV, rfl, hfz, hnd⟩ := hW
  have hA : DataW.TrodAll enc Try.prog W 0 (fun _ => true) true Try.f5.params.toList args.toList ds p := hA0
  rw [Try.params5] at hA hval
  obtain ⟨v0, vs0, d0, ds0, p0, q0, hargs, rfl, rfl, h0, r0⟩ := trodAll_cons hA
  obtain ⟨v1, vs1, d1, ds1, p1, q1, rfl, rfl, rfl, h1, r1⟩ := trodAll_cons r0
  obtain ⟨v2, vs2, d2, ds2, p2, q2, rfl, rfl, rfl, h2, r2⟩ := trodAll_cons r1
  obtain ⟨rfl, rfl, rfl⟩ := trodAll_nil r2
  obtain rfl : args = #[v0, v1, v2] := by cases args; simp_all
  obtain ⟨rfl, rfl⟩ := trodVars_none hV
  have k0 := h0
  have lt0 : ∀ x ∈ p0, x.block < W.heap.size := by obtain ⟨m, hm⟩ := k0; exact DataW.trod_lt m _ _ _ hm
  obtain ⟨cs0, rfl, _⟩ := okWide_struct Try.underlying43 (hval 0 43 v0 rfl rfl)
  obtain ⟨x0, w0⟩ : ∃ y, RdNet W (.agg cs0) y := by
    obtain ⟨fuel, hf⟩ := h0
    obtain ⟨y, q⟩ := open_Net hf
    exact ⟨y, by simpa [Value.cells] using q⟩
  obtain ⟨a1, rfl, rfl, rfl, w1⟩ := open_int Try.underlying2 (hval 1 2 v1 rfl rfl) h1
  obtain ⟨a2, rfl, rfl, rfl, w2⟩ := open_int Try.underlying2 (hval 2 2 v2 rfl rfl) h2
  clear hA0 hval0
  refine (walk _ x0 a1 a2 W w0 w1 w2).mono fun e W' ⟨he, bel⟩ => ?_
  subst he
  exact ⟨_, rfl, _, _, _, [], _, [], hW', trodAll_mk1 (shut_bool Try.underlying4 _), (trodAll_cons_mk (Below.trod laidOut (by kernel_rfl) (of_decide_eq_true (by kernel_rfl)) k0 bel lt0) (trodAll_cons_mk (shut_int Try.underlying2 w1) (trodAll_cons_mk (shut_int Try.underlying2 w2) trodAll_mk0))), rfl, bel.frame _, fun h => by cases h⟩

theorem over : Rows.fnExactInputMirrorRow.holds Try.pinned (OpenSpec.ofChange Rows.fnExactInputMirrorSpec) :=
  OpenClaim.holds_of_wide 5 Try.f5 rfl rfl rfl rfl rfl rfl rfl ⟨rfl, rfl, rfl, rfl, rfl⟩ rfl rfl rfl rfl rfl (by kernel_rfl) Try.func5 (by kernel_rfl)
    (of_decide_eq_true (by kernel_rfl)) (by unfold Func.isWrapper; first | (rw [if_pos (by decide +kernel)]; kernel_rfl) | (rw [if_neg (by decide +kernel)]; exact ⟨rfl, rfl⟩))
    (fun os started H enc _ => lifted os started H enc)

end Go.Proofs.Ytadppilldijijal.fnExactInputMirror
namespace Go.Proofs.Ytadppilldijijal
theorem fnExactInputMirror_holds : Rows.FnExactInputMirrorSaid := fnExactInputMirror.over
#print axioms fnExactInputMirror_holds
end Go.Proofs.Ytadppilldijijal
