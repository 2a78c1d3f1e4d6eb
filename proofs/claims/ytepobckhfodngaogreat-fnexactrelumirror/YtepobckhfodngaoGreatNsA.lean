/-
  The steps of a number that becomes 0 below 0, in the program; one behind the other.
-/
import Derived.Test.YtepobckhfodngaoGreatNsM
import Derived.Deep.Cut
namespace Go.Proofs.YtepobckhfodngaoGreat
open Go.ChangeShapes Go.WideShapes Go.ChangeAt Go.RowKit
set_option linter.unusedVariables false
theorem Off.mix2 {b g : Nat} {bs : List Nat} {w w1 w2 : World} (h : Off (b :: bs) w w1) (k : Off [g] w1 w2) : Off (b :: g :: bs) w w2 :=
  (h.mono (fun y hy => by rcases List.mem_cons.1 hy with e | e; (rw [e]; simp); (simp [e]))).mix k (fun y hy => by simp at hy; left; rw [hy]; simp)
set_option maxHeartbeats 8000000 in
set_option maxRecDepth 100000 in
theorem impl_lowStep (b0 gS : Nat) (x : MNet) (bs : List Nat) (m : Nat) (P : Nat → List Int) (sg : List Int) (w : World) (N : NetIn w b0 x bs) (B : NetB m x) (hm : m ≤ 199970) (G : Blk w gS 114 (cells1 (shL P))) (h1 : P 1 = 2 :: sg) (hl : sg.length = 16) (hb : ∀ j, 0 ≤ sg.getD j 0 ∧ sg.getD j 0 < 256) (hn : gS ∉ b0 :: bs) :
    Calls Tryz.prog 71 #[.pointer (some ⟨b0, 0, none⟩), .pointer (some ⟨gS, 0, none⟩)] w fun e w' => e = .returned (.tuple #[]) ∧ Blk w' gS 114 (cells1 (shL (updP P 2 (256 :: xrF (lfF sg 0) (lfF sg 1) x)))) ∧ ∃ cs, NetIn w' b0 (prX 256 (lfF sg 0) (lfF sg 1) x) cs ∧ (∀ y ∈ cs, y ∈ bs ∨ w.heap.size ≤ y) ∧ Off (b0 :: gS :: bs) w w' := by
  have hP1 : (P 1).length = 17 := by rw [h1, List.length_cons, hl]
  have HL1 : Hid (((2 : Int) :: sg).length = 17) := by show _ = _; rw [List.length_cons, hl]
  have KL0 := fun W => impl_lifted 2 sg 0 W hl (by decide)
  have KL1 := fun W => impl_lifted 2 sg 1 W hl (by decide)
  have KX := fun W hN => impl_xor 256 (lfF sg 0) (lfF sg 1) b0 x bs m W hN B hm (lfF_ok hb 0) (lfF_ok hb 1)
  have HXL : Hid ((256 :: xrF (lfF sg 0) (lfF sg 1) x).length = 17) := by show _ = _; rw [List.length_cons, (xrF_ok _ _ _).1]
  skip
  have lN := N.lt
  have lNs := N.lts
  have lG := G.lt
  have hns : gS ∉ bs := fun h => hn (List.mem_cons.2 (.inr h))
  have hn0 : b0 ≠ gS := fun h => hn (by rw [h]; simp)
  have HS : Hid (∀ V, Blk V gS 114 (cells1 (shL P)) → V.rangeAt gS 17 (cells1 (2 :: sg)).toList) := fun V h => by have := shL_range h 1 (by decide) hP1; rwa [h1] at this
  have HS2 : Hid (∀ V, Blk V gS 114 (cells1 (shL (updP P 2 (256 :: xrF (lfF sg 0) (lfF sg 1) x)))) → V.rangeAt gS 17 (cells1 (2 :: sg)).toList) := fun V h => by have := shL_range h 1 (by decide) (by rw [updP_ne P _ (by decide)]; exact hP1); rwa [updP_ne P _ (by decide), h1] at this
  go_enter Tryz.func71, Tryz.ntmps71
  refine wp_region_held (S := fun V => V.rangeAt gS 17 (cells1 (2 :: sg)).toList) (by kernel_rfl) ?_
  try (change wpAnyH _ _ _ _ _ _ _ _ (World.drew _))
  have G0 := G.drew
  have N0 : NetIn w.drew b0 x bs := N.keep (Below.refl _ _).drew
  have B0 : Below w.heap.size w w.drew := (Below.refl _ _).drew
  have hS := HS.out _ G0
  clear G N
  generalize w.drew = w0 at *
  clear hP1
  generalize prX 256 (lfF sg 0) (lfF sg 1) x = x2 at *
  generalize xrF (lfF sg 0) (lfF sg 1) x = rs at *
  generalize Value.agg (cells1 (256 :: lfF sg 0)) = va at *
  generalize Value.agg (cells1 (256 :: lfF sg 1)) = vb at *
  refine wpAnyH_take (i := 0) (v := ?vn1) rfl (by kernel_rfl) (by kernel_rfl) (by kernel_rfl) (fun _ _ _ h => h) (Or.inl ⟨by rfl, ?hn1⟩) hS ?rn1
  case hn1 => intro w' hSw; go_simp; (try with_reducible rfl)
  (try simp only [List.getElem_toArray]); (try simp only [List.getElem_cons_succ]); (try simp only [List.getElem_cons_zero]); (try simp only [Act.put]); (try simp only [List.setIfInBounds_toArray]); (try simp only [List.set_cons_succ]); (try simp only [List.set_cons_zero])
  refine wpAnyH_take (i := 1) (v := ?vn2) rfl (by kernel_rfl) (by kernel_rfl) (by kernel_rfl) (fun _ _ _ h => h) (Or.inl ⟨by rfl, ?hn2⟩) hS ?rn2
  case hn2 => intro w' hSw; go_simp; (try with_reducible rfl)
  (try simp only [List.getElem_toArray]); (try simp only [List.getElem_cons_succ]); (try simp only [List.getElem_cons_zero]); (try simp only [Act.put]); (try simp only [List.setIfInBounds_toArray]); (try simp only [List.set_cons_succ]); (try simp only [List.set_cons_zero])
  refine wpAnyH_take (i := 2) (v := ?vn3) rfl (by kernel_rfl) (by kernel_rfl) (by kernel_rfl) (fun _ _ _ h => h) (Or.inl ⟨by rfl, ?hn3⟩) hS ?rn3
  case hn3 => intro w' hSw; go_simp; (try with_reducible rfl)
  (try simp only [List.getElem_toArray]); (try simp only [List.getElem_cons_succ]); (try simp only [List.getElem_cons_zero]); (try simp only [Act.put]); (try simp only [List.setIfInBounds_toArray]); (try simp only [List.set_cons_succ]); (try simp only [List.set_cons_zero])
  refine wpAnyH_take (i := 3) (v := ?vn4) rfl (by kernel_rfl) (by kernel_rfl) (by kernel_rfl) (fun _ _ _ h => h) (Or.inl ⟨by rfl, ?hn4⟩) hS ?rn4
  case hn4 => intro w' hSw; go_simp; (try with_reducible rfl)
  (try simp only [List.getElem_toArray]); (try simp only [List.getElem_cons_succ]); (try simp only [List.getElem_cons_zero]); (try simp only [Act.put]); (try simp only [List.setIfInBounds_toArray]); (try simp only [List.set_cons_succ]); (try simp only [List.set_cons_zero])
  refine wpAnyH_take (i := 4) (v := ?vn5) rfl (by kernel_rfl) (by kernel_rfl) (by kernel_rfl) (fun _ _ _ h => h) (Or.inl ⟨by rfl, ?hn5⟩) hS ?rn5
  case hn5 => intro w' hSw; go_simp; (try with_reducible rfl)
  (try simp only [List.getElem_toArray]); (try simp only [List.getElem_cons_succ]); (try simp only [List.getElem_cons_zero]); (try simp only [Act.put]); (try simp only [List.setIfInBounds_toArray]); (try simp only [List.set_cons_succ]); (try simp only [List.set_cons_zero])
  refine wpAnyH_take (i := 5) (v := .agg (cells1 (2 :: sg))) rfl (by kernel_rfl) (by kernel_rfl) (by kernel_rfl) (fun _ _ _ h => h) (yieldsIf_load_mid (by rfl) _ _ rfl gS 17 rfl (cells1 (2 :: sg)).toList _ (fun _ h => h) Tryz.underlying87 rfl (by rw [Array.length_toList, cells1_size, HL1.out]; kernel_rfl)) hS ?_
  (try simp only [List.getElem_toArray]); (try simp only [List.getElem_cons_succ]); (try simp only [List.getElem_cons_zero]); (try simp only [Act.put]); (try simp only [List.setIfInBounds_toArray]); (try simp only [List.set_cons_succ]); (try simp only [List.set_cons_zero])
  refine wpAnyH_take (i := 7) (v := ?vn6) rfl (by kernel_rfl) (by kernel_rfl) (by kernel_rfl) (fun _ _ _ h => h) (Or.inl ⟨by rfl, ?hn6⟩) hS ?rn6
  case hn6 => intro w' hSw; go_simp; (try with_reducible rfl)
  (try simp only [List.getElem_toArray]); (try simp only [List.getElem_cons_succ]); (try simp only [List.getElem_cons_zero]); (try simp only [Act.put]); (try simp only [List.setIfInBounds_toArray]); (try simp only [List.set_cons_succ]); (try simp only [List.set_cons_zero])
  refine wpAnyH_take (i := 8) (v := ?vn7) rfl (by kernel_rfl) (by kernel_rfl) (by kernel_rfl) (fun _ _ _ h => h) (Or.inl ⟨by rfl, ?hn7⟩) hS ?rn7
  case hn7 => intro w' hSw; go_simp; (try with_reducible rfl)
  (try simp only [List.getElem_toArray]); (try simp only [List.getElem_cons_succ]); (try simp only [List.getElem_cons_zero]); (try simp only [Act.put]); (try simp only [List.setIfInBounds_toArray]); (try simp only [List.set_cons_succ]); (try simp only [List.set_cons_zero])
  refine wpAnyH_take (i := 9) (v := ?vn8) rfl (by kernel_rfl) (by kernel_rfl) (by kernel_rfl) (fun _ _ _ h => h) (Or.inl ⟨by rfl, ?hn8⟩) hS ?rn8
  case hn8 => intro w' hSw; go_simp; (try with_reducible rfl)
  (try simp only [List.getElem_toArray]); (try simp only [List.getElem_cons_succ]); (try simp only [List.getElem_cons_zero]); (try simp only [Act.put]); (try simp only [List.setIfInBounds_toArray]); (try simp only [List.set_cons_succ]); (try simp only [List.set_cons_zero])
  refine wpAnyH_take (i := 10) (v := .agg (cells1 (2 :: sg))) rfl (by kernel_rfl) (by kernel_rfl) (by kernel_rfl) (fun _ _ _ h => h) (yieldsIf_load_mid (by rfl) _ _ rfl gS 17 rfl (cells1 (2 :: sg)).toList _ (fun _ h => h) Tryz.underlying87 rfl (by rw [Array.length_toList, cells1_size, HL1.out]; kernel_rfl)) hS ?_
  (try simp only [List.getElem_toArray]); (try simp only [List.getElem_cons_succ]); (try simp only [List.getElem_cons_zero]); (try simp only [Act.put]); (try simp only [List.setIfInBounds_toArray]); (try simp only [List.set_cons_succ]); (try simp only [List.set_cons_zero])
  refine wpAnyH_ready (rs := [6]) (by kernel_rfl) (by simp) ?_
  refine AllReadyH.cons (o := _) rfl (fun K hK => ?_) AllReadyH.nil
  rw [if_pos (by rfl)]
  go_simp
  go_at_call 95
  refine (KL0 _).mono ?_
  rintro e w1 ⟨rfl, hb⟩
  have G1 := G0.keep hb
  have N1 := N0.keep hb
  have B1 := B0.trans (hb.mono B0.size)
  clear hb G0 N0 B0
  dsimp only
  refine hK.out _ _ (HS.out _ G1) (fun hS => ?_)
  clear hK K
  (try simp only [List.getElem_toArray]); (try simp only [List.getElem_cons_succ]); (try simp only [List.getElem_cons_zero]); (try simp only [Act.put]); (try simp only [List.setIfInBounds_toArray]); (try simp only [List.set_cons_succ]); (try simp only [List.set_cons_zero])
  refine wpAnyH_ready (rs := [11]) (by kernel_rfl) (by simp) ?_
  refine AllReadyH.cons (o := _) rfl (fun K hK => ?_) AllReadyH.nil
  rw [if_pos (by rfl)]
  go_simp
  go_at_call 95
  refine (KL1 _).mono ?_
  rintro e w2 ⟨rfl, hb⟩
  have G2 := G1.keep hb
  have N2 := N1.keep hb
  have B2 := B1.trans (hb.mono B1.size)
  clear hb G1 N1 B1
  dsimp only
  refine hK.out _ _ (HS.out _ G2) (fun hS => ?_)
  clear hK K
  (try simp only [List.getElem_toArray]); (try simp only [List.getElem_cons_succ]); (try simp only [List.getElem_cons_zero]); (try simp only [Act.put]); (try simp only [List.setIfInBounds_toArray]); (try simp only [List.set_cons_succ]); (try simp only [List.set_cons_zero])
  refine wpAnyH_ready (rs := [12]) (by kernel_rfl) (by simp) ?_
  refine AllReadyH.cons (o := _) rfl (fun K hK => ?_) AllReadyH.nil
  rw [if_pos (by rfl)]
  go_simp
  go_at_call 94
  refine (KX _ N2).mono ?_
  rintro e w3 ⟨rfl, cs, N3, hcs, O⟩
  have G3 := G2.off O hn
  have P3 : Off (b0 :: bs) w w3 := (Off.ofBelow B2).trans O
  have zB := B2.size
  have hcs2 : ∀ y ∈ cs, y ∈ bs ∨ w.heap.size ≤ y := fun y hy => by rcases hcs y hy with h | h; (exact .inl h); (right; omega)
  clear O hcs G2 N2 B2
  dsimp only
  refine hK.out _ _ (HS.out _ G3) (fun hS => ?_)
  clear hK K
  (try simp only [List.getElem_toArray]); (try simp only [List.getElem_cons_succ]); (try simp only [List.getElem_cons_zero]); (try simp only [Act.put]); (try simp only [List.setIfInBounds_toArray]); (try simp only [List.set_cons_succ]); (try simp only [List.set_cons_zero])
  refine wpAnyH_take (i := 13) (v := ?vn9) rfl (by kernel_rfl) (by kernel_rfl) (by kernel_rfl) (fun _ _ _ h => h) (Or.inl ⟨by rfl, ?hn9⟩) hS ?rn9
  case hn9 => intro w' hSw; go_simp; (try with_reducible rfl)
  (try simp only [List.getElem_toArray]); (try simp only [List.getElem_cons_succ]); (try simp only [List.getElem_cons_zero]); (try simp only [Act.put]); (try simp only [List.setIfInBounds_toArray]); (try simp only [List.set_cons_succ]); (try simp only [List.set_cons_zero])
  refine wpAnyH_take (i := 14) (v := ?vn10) rfl (by kernel_rfl) (by kernel_rfl) (by kernel_rfl) (fun _ _ _ h => h) (Or.inl ⟨by rfl, ?hn10⟩) hS ?rn10
  case hn10 => intro w' hSw; go_simp; (try with_reducible rfl)
  (try simp only [List.getElem_toArray]); (try simp only [List.getElem_cons_succ]); (try simp only [List.getElem_cons_zero]); (try simp only [Act.put]); (try simp only [List.setIfInBounds_toArray]); (try simp only [List.set_cons_succ]); (try simp only [List.set_cons_zero])
  refine wpAnyH_ready (rs := [15]) (by kernel_rfl) (by simp) ?_
  refine AllReadyH.cons (o := _) rfl (fun K hK => ?_) AllReadyH.nil
  refine step_store_sheet rfl 87 _ _ rfl gS 2 (256 :: rs) rfl rfl G3 (by decide) HXL.out (by rw [cells1_size, HXL.out]; kernel_rfl) ?_
  intro w20 G20 O20
  have hSn := HS2.out _ G20
  refine hK.out _ _ hSn (fun hS => ?_)
  clear hK K hSn
  (try simp only [List.getElem_toArray]); (try simp only [List.getElem_cons_succ]); (try simp only [List.getElem_cons_zero]); (try simp only [Act.put]); (try simp only [List.setIfInBounds_toArray]); (try simp only [List.set_cons_succ]); (try simp only [List.set_cons_zero])
  refine wpAnyH_done (by kernel_rfl) ?_ _
  clear hS
  go_wp2
  first | go_end0 | refine bodyPost_ret (results_none rfl _ _ _) rfl ?_
  exact ⟨rfl, G20, cs, N3.off O20 (by simp; exact hn0) (fun y hy hm => by simp at hm; rcases hcs2 y hy with h | h; (exact hns (hm ▸ h)); omega), hcs2, P3.mix2 O20⟩
set_option maxHeartbeats 8000000 in
set_option maxRecDepth 100000 in
theorem impl_highStep (b0 gS : Nat) (x : MNet) (bs : List Nat) (m : Nat) (P : Nat → List Int) (sg : List Int) (w : World) (N : NetIn w b0 x bs) (B : NetB m x) (hm : m ≤ 199970) (G : Blk w gS 114 (cells1 (shL P))) (h1 : P 1 = 2 :: sg) (hl : sg.length = 16) (hb : ∀ j, 0 ≤ sg.getD j 0 ∧ sg.getD j 0 < 256) (hn : gS ∉ b0 :: bs) :
    Calls Tryz.prog 72 #[.pointer (some ⟨b0, 0, none⟩), .pointer (some ⟨gS, 0, none⟩)] w fun e w' => e = .returned (.tuple #[]) ∧ Blk w' gS 114 (cells1 (shL (updP P 3 (256 :: xrF (lfF sg 2) (lfF sg 3) x)))) ∧ ∃ cs, NetIn w' b0 (prX 256 (lfF sg 2) (lfF sg 3) x) cs ∧ (∀ y ∈ cs, y ∈ bs ∨ w.heap.size ≤ y) ∧ Off (b0 :: gS :: bs) w w' := by
  have hP1 : (P 1).length = 17 := by rw [h1, List.length_cons, hl]
  have HL1 : Hid (((2 : Int) :: sg).length = 17) := by show _ = _; rw [List.length_cons, hl]
  have KL0 := fun W => impl_lifted 2 sg 2 W hl (by decide)
  have KL1 := fun W => impl_lifted 2 sg 3 W hl (by decide)
  have KX := fun W hN => impl_xor 256 (lfF sg 2) (lfF sg 3) b0 x bs m W hN B hm (lfF_ok hb 2) (lfF_ok hb 3)
  have HXL : Hid ((256 :: xrF (lfF sg 2) (lfF sg 3) x).length = 17) := by show _ = _; rw [List.length_cons, (xrF_ok _ _ _).1]
  skip
  have lN := N.lt
  have lNs := N.lts
  have lG := G.lt
  have hns : gS ∉ bs := fun h => hn (List.mem_cons.2 (.inr h))
  have hn0 : b0 ≠ gS := fun h => hn (by rw [h]; simp)
  have HS : Hid (∀ V, Blk V gS 114 (cells1 (shL P)) → V.rangeAt gS 17 (cells1 (2 :: sg)).toList) := fun V h => by have := shL_range h 1 (by decide) hP1; rwa [h1] at this
  have HS2 : Hid (∀ V, Blk V gS 114 (cells1 (shL (updP P 3 (256 :: xrF (lfF sg 2) (lfF sg 3) x)))) → V.rangeAt gS 17 (cells1 (2 :: sg)).toList) := fun V h => by have := shL_range h 1 (by decide) (by rw [updP_ne P _ (by decide)]; exact hP1); rwa [updP_ne P _ (by decide), h1] at this
  go_enter Tryz.func72, Tryz.ntmps72
  refine wp_region_held (S := fun V => V.rangeAt gS 17 (cells1 (2 :: sg)).toList) (by kernel_rfl) ?_
  try (change wpAnyH _ _ _ _ _ _ _ _ (World.drew _))
  have G0 := G.drew
  have N0 : NetIn w.drew b0 x bs := N.keep (Below.refl _ _).drew
  have B0 : Below w.heap.size w w.drew := (Below.refl _ _).drew
  have hS := HS.out _ G0
  clear G N
  generalize w.drew = w0 at *
  clear hP1
  generalize prX 256 (lfF sg 2) (lfF sg 3) x = x2 at *
  generalize xrF (lfF sg 2) (lfF sg 3) x = rs at *
  generalize Value.agg (cells1 (256 :: lfF sg 2)) = va at *
  generalize Value.agg (cells1 (256 :: lfF sg 3)) = vb at *
  refine wpAnyH_take (i := 0) (v := ?vn11) rfl (by kernel_rfl) (by kernel_rfl) (by kernel_rfl) (fun _ _ _ h => h) (Or.inl ⟨by rfl, ?hn11⟩) hS ?rn11
  case hn11 => intro w' hSw; go_simp; (try with_reducible rfl)
  (try simp only [List.getElem_toArray]); (try simp only [List.getElem_cons_succ]); (try simp only [List.getElem_cons_zero]); (try simp only [Act.put]); (try simp only [List.setIfInBounds_toArray]); (try simp only [List.set_cons_succ]); (try simp only [List.set_cons_zero])
  refine wpAnyH_take (i := 1) (v := ?vn12) rfl (by kernel_rfl) (by kernel_rfl) (by kernel_rfl) (fun _ _ _ h => h) (Or.inl ⟨by rfl, ?hn12⟩) hS ?rn12
  case hn12 => intro w' hSw; go_simp; (try with_reducible rfl)
  (try simp only [List.getElem_toArray]); (try simp only [List.getElem_cons_succ]); (try simp only [List.getElem_cons_zero]); (try simp only [Act.put]); (try simp only [List.setIfInBounds_toArray]); (try simp only [List.set_cons_succ]); (try simp only [List.set_cons_zero])
  refine wpAnyH_take (i := 2) (v := ?vn13) rfl (by kernel_rfl) (by kernel_rfl) (by kernel_rfl) (fun _ _ _ h => h) (Or.inl ⟨by rfl, ?hn13⟩) hS ?rn13
  case hn13 => intro w' hSw; go_simp; (try with_reducible rfl)
  (try simp only [List.getElem_toArray]); (try simp only [List.getElem_cons_succ]); (try simp only [List.getElem_cons_zero]); (try simp only [Act.put]); (try simp only [List.setIfInBounds_toArray]); (try simp only [List.set_cons_succ]); (try simp only [List.set_cons_zero])
  refine wpAnyH_take (i := 3) (v := ?vn14) rfl (by kernel_rfl) (by kernel_rfl) (by kernel_rfl) (fun _ _ _ h => h) (Or.inl ⟨by rfl, ?hn14⟩) hS ?rn14
  case hn14 => intro w' hSw; go_simp; (try with_reducible rfl)
  (try simp only [List.getElem_toArray]); (try simp only [List.getElem_cons_succ]); (try simp only [List.getElem_cons_zero]); (try simp only [Act.put]); (try simp only [List.setIfInBounds_toArray]); (try simp only [List.set_cons_succ]); (try simp only [List.set_cons_zero])
  refine wpAnyH_take (i := 4) (v := ?vn15) rfl (by kernel_rfl) (by kernel_rfl) (by kernel_rfl) (fun _ _ _ h => h) (Or.inl ⟨by rfl, ?hn15⟩) hS ?rn15
  case hn15 => intro w' hSw; go_simp; (try with_reducible rfl)
  (try simp only [List.getElem_toArray]); (try simp only [List.getElem_cons_succ]); (try simp only [List.getElem_cons_zero]); (try simp only [Act.put]); (try simp only [List.setIfInBounds_toArray]); (try simp only [List.set_cons_succ]); (try simp only [List.set_cons_zero])
  refine wpAnyH_take (i := 5) (v := .agg (cells1 (2 :: sg))) rfl (by kernel_rfl) (by kernel_rfl) (by kernel_rfl) (fun _ _ _ h => h) (yieldsIf_load_mid (by rfl) _ _ rfl gS 17 rfl (cells1 (2 :: sg)).toList _ (fun _ h => h) Tryz.underlying87 rfl (by rw [Array.length_toList, cells1_size, HL1.out]; kernel_rfl)) hS ?_
  (try simp only [List.getElem_toArray]); (try simp only [List.getElem_cons_succ]); (try simp only [List.getElem_cons_zero]); (try simp only [Act.put]); (try simp only [List.setIfInBounds_toArray]); (try simp only [List.set_cons_succ]); (try simp only [List.set_cons_zero])
  refine wpAnyH_take (i := 7) (v := ?vn16) rfl (by kernel_rfl) (by kernel_rfl) (by kernel_rfl) (fun _ _ _ h => h) (Or.inl ⟨by rfl, ?hn16⟩) hS ?rn16
  case hn16 => intro w' hSw; go_simp; (try with_reducible rfl)
  (try simp only [List.getElem_toArray]); (try simp only [List.getElem_cons_succ]); (try simp only [List.getElem_cons_zero]); (try simp only [Act.put]); (try simp only [List.setIfInBounds_toArray]); (try simp only [List.set_cons_succ]); (try simp only [List.set_cons_zero])
  refine wpAnyH_take (i := 8) (v := ?vn17) rfl (by kernel_rfl) (by kernel_rfl) (by kernel_rfl) (fun _ _ _ h => h) (Or.inl ⟨by rfl, ?hn17⟩) hS ?rn17
  case hn17 => intro w' hSw; go_simp; (try with_reducible rfl)
  (try simp only [List.getElem_toArray]); (try simp only [List.getElem_cons_succ]); (try simp only [List.getElem_cons_zero]); (try simp only [Act.put]); (try simp only [List.setIfInBounds_toArray]); (try simp only [List.set_cons_succ]); (try simp only [List.set_cons_zero])
  refine wpAnyH_take (i := 9) (v := ?vn18) rfl (by kernel_rfl) (by kernel_rfl) (by kernel_rfl) (fun _ _ _ h => h) (Or.inl ⟨by rfl, ?hn18⟩) hS ?rn18
  case hn18 => intro w' hSw; go_simp; (try with_reducible rfl)
  (try simp only [List.getElem_toArray]); (try simp only [List.getElem_cons_succ]); (try simp only [List.getElem_cons_zero]); (try simp only [Act.put]); (try simp only [List.setIfInBounds_toArray]); (try simp only [List.set_cons_succ]); (try simp only [List.set_cons_zero])
  refine wpAnyH_take (i := 10) (v := .agg (cells1 (2 :: sg))) rfl (by kernel_rfl) (by kernel_rfl) (by kernel_rfl) (fun _ _ _ h => h) (yieldsIf_load_mid (by rfl) _ _ rfl gS 17 rfl (cells1 (2 :: sg)).toList _ (fun _ h => h) Tryz.underlying87 rfl (by rw [Array.length_toList, cells1_size, HL1.out]; kernel_rfl)) hS ?_
  (try simp only [List.getElem_toArray]); (try simp only [List.getElem_cons_succ]); (try simp only [List.getElem_cons_zero]); (try simp only [Act.put]); (try simp only [List.setIfInBounds_toArray]); (try simp only [List.set_cons_succ]); (try simp only [List.set_cons_zero])
  refine wpAnyH_ready (rs := [6]) (by kernel_rfl) (by simp) ?_
  refine AllReadyH.cons (o := _) rfl (fun K hK => ?_) AllReadyH.nil
  rw [if_pos (by rfl)]
  go_simp
  go_at_call 95
  refine (KL0 _).mono ?_
  rintro e w1 ⟨rfl, hb⟩
  have G1 := G0.keep hb
  have N1 := N0.keep hb
  have B1 := B0.trans (hb.mono B0.size)
  clear hb G0 N0 B0
  dsimp only
  refine hK.out _ _ (HS.out _ G1) (fun hS => ?_)
  clear hK K
  (try simp only [List.getElem_toArray]); (try simp only [List.getElem_cons_succ]); (try simp only [List.getElem_cons_zero]); (try simp only [Act.put]); (try simp only [List.setIfInBounds_toArray]); (try simp only [List.set_cons_succ]); (try simp only [List.set_cons_zero])
  refine wpAnyH_ready (rs := [11]) (by kernel_rfl) (by simp) ?_
  refine AllReadyH.cons (o := _) rfl (fun K hK => ?_) AllReadyH.nil
  rw [if_pos (by rfl)]
  go_simp
  go_at_call 95
  refine (KL1 _).mono ?_
  rintro e w2 ⟨rfl, hb⟩
  have G2 := G1.keep hb
  have N2 := N1.keep hb
  have B2 := B1.trans (hb.mono B1.size)
  clear hb G1 N1 B1
  dsimp only
  refine hK.out _ _ (HS.out _ G2) (fun hS => ?_)
  clear hK K
  (try simp only [List.getElem_toArray]); (try simp only [List.getElem_cons_succ]); (try simp only [List.getElem_cons_zero]); (try simp only [Act.put]); (try simp only [List.setIfInBounds_toArray]); (try simp only [List.set_cons_succ]); (try simp only [List.set_cons_zero])
  refine wpAnyH_ready (rs := [12]) (by kernel_rfl) (by simp) ?_
  refine AllReadyH.cons (o := _) rfl (fun K hK => ?_) AllReadyH.nil
  rw [if_pos (by rfl)]
  go_simp
  go_at_call 94
  refine (KX _ N2).mono ?_
  rintro e w3 ⟨rfl, cs, N3, hcs, O⟩
  have G3 := G2.off O hn
  have P3 : Off (b0 :: bs) w w3 := (Off.ofBelow B2).trans O
  have zB := B2.size
  have hcs2 : ∀ y ∈ cs, y ∈ bs ∨ w.heap.size ≤ y := fun y hy => by rcases hcs y hy with h | h; (exact .inl h); (right; omega)
  clear O hcs G2 N2 B2
  dsimp only
  refine hK.out _ _ (HS.out _ G3) (fun hS => ?_)
  clear hK K
  (try simp only [List.getElem_toArray]); (try simp only [List.getElem_cons_succ]); (try simp only [List.getElem_cons_zero]); (try simp only [Act.put]); (try simp only [List.setIfInBounds_toArray]); (try simp only [List.set_cons_succ]); (try simp only [List.set_cons_zero])
  refine wpAnyH_take (i := 13) (v := ?vn19) rfl (by kernel_rfl) (by kernel_rfl) (by kernel_rfl) (fun _ _ _ h => h) (Or.inl ⟨by rfl, ?hn19⟩) hS ?rn19
  case hn19 => intro w' hSw; go_simp; (try with_reducible rfl)
  (try simp only [List.getElem_toArray]); (try simp only [List.getElem_cons_succ]); (try simp only [List.getElem_cons_zero]); (try simp only [Act.put]); (try simp only [List.setIfInBounds_toArray]); (try simp only [List.set_cons_succ]); (try simp only [List.set_cons_zero])
  refine wpAnyH_take (i := 14) (v := ?vn20) rfl (by kernel_rfl) (by kernel_rfl) (by kernel_rfl) (fun _ _ _ h => h) (Or.inl ⟨by rfl, ?hn20⟩) hS ?rn20
  case hn20 => intro w' hSw; go_simp; (try with_reducible rfl)
  (try simp only [List.getElem_toArray]); (try simp only [List.getElem_cons_succ]); (try simp only [List.getElem_cons_zero]); (try simp only [Act.put]); (try simp only [List.setIfInBounds_toArray]); (try simp only [List.set_cons_succ]); (try simp only [List.set_cons_zero])
  refine wpAnyH_ready (rs := [15]) (by kernel_rfl) (by simp) ?_
  refine AllReadyH.cons (o := _) rfl (fun K hK => ?_) AllReadyH.nil
  refine step_store_sheet rfl 87 _ _ rfl gS 3 (256 :: rs) rfl rfl G3 (by decide) HXL.out (by rw [cells1_size, HXL.out]; kernel_rfl) ?_
  intro w20 G20 O20
  have hSn := HS2.out _ G20
  refine hK.out _ _ hSn (fun hS => ?_)
  clear hK K hSn
  (try simp only [List.getElem_toArray]); (try simp only [List.getElem_cons_succ]); (try simp only [List.getElem_cons_zero]); (try simp only [Act.put]); (try simp only [List.setIfInBounds_toArray]); (try simp only [List.set_cons_succ]); (try simp only [List.set_cons_zero])
  refine wpAnyH_done (by kernel_rfl) ?_ _
  clear hS
  go_wp2
  first | go_end0 | refine bodyPost_ret (results_none rfl _ _ _) rfl ?_
  exact ⟨rfl, G20, cs, N3.off O20 (by simp; exact hn0) (fun y hy hm => by simp at hm; rcases hcs2 y hy with h | h; (exact hns (hm ▸ h)); omega), hcs2, P3.mix2 O20⟩
end Go.Proofs.YtepobckhfodngaoGreat
