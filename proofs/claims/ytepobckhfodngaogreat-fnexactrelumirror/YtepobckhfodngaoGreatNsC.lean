/-
  The steps that tell a sign and that keep what is not below 0, in the program.
-/
import Derived.Test.YtepobckhfodngaoGreatNsB
import Derived.Test.YtepobckhfodngaoGreatNbS
import Derived.Deep.Cut
namespace Go.Proofs.YtepobckhfodngaoGreat
open Go.ChangeShapes Go.WideShapes Go.ChangeAt Go.RowKit
set_option linter.unusedVariables false
set_option maxHeartbeats 8000000 in
set_option maxRecDepth 100000 in
theorem impl_signStep (b0 gS : Nat) (x : MNet) (bs : List Nat) (m : Nat) (P : Nat → List Int) (xss : List (List Int)) (w : World) (N : NetIn w b0 x bs) (B : NetB m x) (hm : m ≤ 199000) (hq0 : x.xQuarrel.xSome = false) (G : Blk w gS 114 (cells1 (shL P))) (h0 : P 0 = 256 :: xss.flatten) (hsq : Sq xss) (hbd : ∀ i j, 0 ≤ pt xss i j ∧ pt xss i j < 256) (hown : ∀ i, i < 4 → pt xss i i = 0) (hn : gS ∉ b0 :: bs) :
    Calls Tryz.prog 70 #[.pointer (some ⟨b0, 0, none⟩), .pointer (some ⟨gS, 0, none⟩)] w fun e w' => e = .returned (.tuple #[]) ∧ ∃ v : List Int, v.length = 17 ∧ ((sgX xss x).xQuarrel.xSome = false → v = 2 :: sgF xss x) ∧ Blk w' gS 114 (cells1 (shL (updP P 1 v))) ∧ ∃ cs, NetIn w' b0 (sgX xss x) cs ∧ (∀ y ∈ cs, y ∈ bs ∨ w.heap.size ≤ y) ∧ Off (b0 :: gS :: bs) w w' := by
  have hP0 : (P 0).length = 17 := by rw [h0, List.length_cons, flat_len hsq]
  have HL1 : Hid (((256 : Int) :: xss.flatten).length = 17) := by show _ = _; rw [List.length_cons, flat_len hsq]
  have KX := fun W hN => impl_sign xss b0 x bs m W hN B hm hq0 hsq hbd hown
  have lN := N.lt
  have lNs := N.lts
  have lG := G.lt
  have hns : gS ∉ bs := fun h => hn (List.mem_cons.2 (.inr h))
  have hn0 : b0 ≠ gS := fun h => hn (by rw [h]; simp)
  have hr0 := shL_range G 0 (by decide) hP0
  rw [h0] at hr0
  clear hsq hbd hown hP0 h0 hq0
  generalize hxf : (256 :: xss.flatten) = fx at *
  clear hxf
  go_enter Tryz.func70, Tryz.ntmps70
  go_wp2_with (refine wpList_load_mid rfl 87 _ rfl gS 0 rfl (cells1 fx).toList _ hr0 Tryz.underlying87 rfl (by rw [Array.length_toList, cells1_size, HL1.out]; kernel_rfl) ?_)
  refine (KX _ N).mono ?_
  rintro e w3 ⟨q0, gs, cs, rfl, hgl, hgq, N3, hcs, O⟩
  have G3 := G.off O hn
  have HQL : Hid ((q0 :: gs).length = 17) := by show _ = _; rw [List.length_cons, hgl]
  clear KX N G hr0
  go_wp2_with (refine wpList_store_mid rfl 87 _ _ rfl gS 17 (cells1 (q0 :: gs)) rfl rfl (G3.thereAt 17 (cells1 (q0 :: gs)).size (by rw [cells1_size, cells1_size, shL_len, HQL.out]; decide)) (by rw [cells1_size, HQL.out]; kernel_rfl) (cells1_one _) ?_)
  have G20 : Blk (w3.setCells gS 17 (cells1 (q0 :: gs)).toList) gS 114 (cells1 (shL (updP P 1 (q0 :: gs)))) := by rw [← shL_upd P 1 (q0 :: gs) (by decide) HQL.out]; exact G3.setMid _ _ _ _
  have O20 : Off [gS] w3 (w3.setCells gS 17 (cells1 (q0 :: gs)).toList) := Off.setCells _ _ _
  generalize w3.setCells gS 17 (cells1 (q0 :: gs)).toList = w20 at *
  try go_wp2
  first | go_end0 | refine bodyPost_ret (results_none rfl _ _ _) rfl ?_
  exact ⟨rfl, q0 :: gs, HQL.out, fun h => by rw [(hgq h).1, (hgq h).2], G20, cs, N3.off O20 (by simp; exact hn0) (fun y hy hm => by simp at hm; rcases hcs y hy with h | h; (exact hns (hm ▸ h)); omega), hcs, O.mix2 O20⟩
set_option maxHeartbeats 8000000 in
set_option maxRecDepth 100000 in
theorem impl_keepStep (b0 gS : Nat) (x : MNet) (bs : List Nat) (m : Nat) (P : Nat → List Int) (fn fb : List Int) (w : World) (N : NetIn w b0 x bs) (B : NetB m x) (hm : m ≤ 199970) (G : Blk w gS 114 (cells1 (shL P))) (h0 : P 0 = 256 :: fn) (h4 : P 4 = 256 :: fb) (ha : Ok16 256 fn) (hb : Ok16 256 fb) (hn : gS ∉ b0 :: bs) :
    Calls Tryz.prog 74 #[.pointer (some ⟨b0, 0, none⟩), .pointer (some ⟨gS, 0, none⟩)] w fun e w' => e = .returned (.tuple #[]) ∧ Blk w' gS 114 (cells1 (shL (updP P 5 (256 :: subF 256 fn (prF 256 fn fb x))))) ∧ ∃ cs, NetIn w' b0 (prX 256 fn fb x) cs ∧ (∀ y ∈ cs, y ∈ bs ∨ w.heap.size ≤ y) ∧ Off (b0 :: gS :: bs) w w' := by
  have hP2 : (P 0).length = 17 := by rw [h0, List.length_cons, ha.1]
  have hP3 : (P 4).length = 17 := by rw [h4, List.length_cons, hb.1]
  have HL1 : Hid (((256 : Int) :: fn).length = 17) := by show _ = _; rw [List.length_cons, ha.1]
  have HL2 : Hid (((256 : Int) :: fb).length = 17) := by show _ = _; rw [List.length_cons, hb.1]
  have KX := fun W hN => impl_product 256 256 fn fb b0 x bs m W hN B hm (.inr rfl) ha hb
  have KM := fun W => impl_share_minus 256 256 fn (prF 256 fn fb x) W (.inr rfl) ha (prF_ok (.inr rfl) fn fb B).2
  have HXL : Hid ((256 :: subF 256 fn (prF 256 fn fb x)).length = 17) := by show _ = _; rw [List.length_cons, subF_len]
  have lN := N.lt
  have lNs := N.lts
  have lG := G.lt
  have hns : gS ∉ bs := fun h => hn (List.mem_cons.2 (.inr h))
  have hn0 : b0 ≠ gS := fun h => hn (by rw [h]; simp)
  have HS : Hid (∀ V, Blk V gS 114 (cells1 (shL P)) → V.rangeAt gS 0 (cells1 (256 :: fn)).toList ∧ V.rangeAt gS 68 (cells1 (256 :: fb)).toList) := fun V h => ⟨by have := shL_range h 0 (by decide) hP2; rwa [h0] at this, by have := shL_range h 4 (by decide) hP3; rwa [h4] at this⟩
  have HS2 : Hid (∀ V, Blk V gS 114 (cells1 (shL (updP P 5 (256 :: subF 256 fn (prF 256 fn fb x))))) → V.rangeAt gS 0 (cells1 (256 :: fn)).toList ∧ V.rangeAt gS 68 (cells1 (256 :: fb)).toList) := fun V h => ⟨by have := shL_range h 0 (by decide) (by rw [updP_ne P _ (by decide)]; exact hP2); rwa [updP_ne P _ (by decide), h0] at this, by have := shL_range h 4 (by decide) (by rw [updP_ne P _ (by decide)]; exact hP3); rwa [updP_ne P _ (by decide), h4] at this⟩
  go_enter Tryz.func74, Tryz.ntmps74
  refine wp_region_held (S := fun V => V.rangeAt gS 0 (cells1 (256 :: fn)).toList ∧ V.rangeAt gS 68 (cells1 (256 :: fb)).toList) (by kernel_rfl) ?_
  try (change wpAnyH _ _ _ _ _ _ _ _ (World.drew _))
  have G0 := G.drew
  have N0 : NetIn w.drew b0 x bs := N.keep (Below.refl _ _).drew
  have B0 : Below w.heap.size w w.drew := (Below.refl _ _).drew
  have hS := HS.out _ G0
  clear G N
  generalize w.drew = w0 at *
  clear hP2 hP3
  generalize prX 256 fn fb x = x2 at *
  generalize subF 256 fn (prF 256 fn fb x) = rs at *
  generalize Value.agg (cells1 (256 :: prF 256 fn fb x)) = vp at *
  refine wpAnyH_take (i := 0) (v := ?vn31) rfl (by kernel_rfl) (by kernel_rfl) (by kernel_rfl) (fun _ _ _ h => h) (Or.inl ⟨by rfl, ?hn31⟩) hS ?rn31
  case hn31 => intro w' hSw; go_simp; (try with_reducible rfl)
  (try simp only [List.getElem_toArray]); (try simp only [List.getElem_cons_succ]); (try simp only [List.getElem_cons_zero]); (try simp only [Act.put]); (try simp only [List.setIfInBounds_toArray]); (try simp only [List.set_cons_succ]); (try simp only [List.set_cons_zero])
  refine wpAnyH_take (i := 1) (v := ?vn32) rfl (by kernel_rfl) (by kernel_rfl) (by kernel_rfl) (fun _ _ _ h => h) (Or.inl ⟨by rfl, ?hn32⟩) hS ?rn32
  case hn32 => intro w' hSw; go_simp; (try with_reducible rfl)
  (try simp only [List.getElem_toArray]); (try simp only [List.getElem_cons_succ]); (try simp only [List.getElem_cons_zero]); (try simp only [Act.put]); (try simp only [List.setIfInBounds_toArray]); (try simp only [List.set_cons_succ]); (try simp only [List.set_cons_zero])
  refine wpAnyH_take (i := 2) (v := ?vn33) rfl (by kernel_rfl) (by kernel_rfl) (by kernel_rfl) (fun _ _ _ h => h) (Or.inl ⟨by rfl, ?hn33⟩) hS ?rn33
  case hn33 => intro w' hSw; go_simp; (try with_reducible rfl)
  (try simp only [List.getElem_toArray]); (try simp only [List.getElem_cons_succ]); (try simp only [List.getElem_cons_zero]); (try simp only [Act.put]); (try simp only [List.setIfInBounds_toArray]); (try simp only [List.set_cons_succ]); (try simp only [List.set_cons_zero])
  refine wpAnyH_take (i := 3) (v := ?vn34) rfl (by kernel_rfl) (by kernel_rfl) (by kernel_rfl) (fun _ _ _ h => h) (Or.inl ⟨by rfl, ?hn34⟩) hS ?rn34
  case hn34 => intro w' hSw; go_simp; (try with_reducible rfl)
  (try simp only [List.getElem_toArray]); (try simp only [List.getElem_cons_succ]); (try simp only [List.getElem_cons_zero]); (try simp only [Act.put]); (try simp only [List.setIfInBounds_toArray]); (try simp only [List.set_cons_succ]); (try simp only [List.set_cons_zero])
  refine wpAnyH_take (i := 4) (v := .agg (cells1 (256 :: fn))) rfl (by kernel_rfl) (by kernel_rfl) (by kernel_rfl) (fun _ _ _ h => h) (yieldsIf_load_mid (by rfl) _ _ rfl gS 0 rfl (cells1 (256 :: fn)).toList _ (fun _ h => h.1) Tryz.underlying87 rfl (by rw [Array.length_toList, cells1_size, HL1.out]; kernel_rfl)) hS ?_
  (try simp only [List.getElem_toArray]); (try simp only [List.getElem_cons_succ]); (try simp only [List.getElem_cons_zero]); (try simp only [Act.put]); (try simp only [List.setIfInBounds_toArray]); (try simp only [List.set_cons_succ]); (try simp only [List.set_cons_zero])
  refine wpAnyH_take (i := 5) (v := ?vn35) rfl (by kernel_rfl) (by kernel_rfl) (by kernel_rfl) (fun _ _ _ h => h) (Or.inl ⟨by rfl, ?hn35⟩) hS ?rn35
  case hn35 => intro w' hSw; go_simp; (try with_reducible rfl)
  (try simp only [List.getElem_toArray]); (try simp only [List.getElem_cons_succ]); (try simp only [List.getElem_cons_zero]); (try simp only [Act.put]); (try simp only [List.setIfInBounds_toArray]); (try simp only [List.set_cons_succ]); (try simp only [List.set_cons_zero])
  refine wpAnyH_take (i := 6) (v := ?vn36) rfl (by kernel_rfl) (by kernel_rfl) (by kernel_rfl) (fun _ _ _ h => h) (Or.inl ⟨by rfl, ?hn36⟩) hS ?rn36
  case hn36 => intro w' hSw; go_simp; (try with_reducible rfl)
  (try simp only [List.getElem_toArray]); (try simp only [List.getElem_cons_succ]); (try simp only [List.getElem_cons_zero]); (try simp only [Act.put]); (try simp only [List.setIfInBounds_toArray]); (try simp only [List.set_cons_succ]); (try simp only [List.set_cons_zero])
  refine wpAnyH_take (i := 7) (v := ?vn37) rfl (by kernel_rfl) (by kernel_rfl) (by kernel_rfl) (fun _ _ _ h => h) (Or.inl ⟨by rfl, ?hn37⟩) hS ?rn37
  case hn37 => intro w' hSw; go_simp; (try with_reducible rfl)
  (try simp only [List.getElem_toArray]); (try simp only [List.getElem_cons_succ]); (try simp only [List.getElem_cons_zero]); (try simp only [Act.put]); (try simp only [List.setIfInBounds_toArray]); (try simp only [List.set_cons_succ]); (try simp only [List.set_cons_zero])
  refine wpAnyH_take (i := 8) (v := ?vn38) rfl (by kernel_rfl) (by kernel_rfl) (by kernel_rfl) (fun _ _ _ h => h) (Or.inl ⟨by rfl, ?hn38⟩) hS ?rn38
  case hn38 => intro w' hSw; go_simp; (try with_reducible rfl)
  (try simp only [List.getElem_toArray]); (try simp only [List.getElem_cons_succ]); (try simp only [List.getElem_cons_zero]); (try simp only [Act.put]); (try simp only [List.setIfInBounds_toArray]); (try simp only [List.set_cons_succ]); (try simp only [List.set_cons_zero])
  refine wpAnyH_take (i := 9) (v := .agg (cells1 (256 :: fn))) rfl (by kernel_rfl) (by kernel_rfl) (by kernel_rfl) (fun _ _ _ h => h) (yieldsIf_load_mid (by rfl) _ _ rfl gS 0 rfl (cells1 (256 :: fn)).toList _ (fun _ h => h.1) Tryz.underlying87 rfl (by rw [Array.length_toList, cells1_size, HL1.out]; kernel_rfl)) hS ?_
  (try simp only [List.getElem_toArray]); (try simp only [List.getElem_cons_succ]); (try simp only [List.getElem_cons_zero]); (try simp only [Act.put]); (try simp only [List.setIfInBounds_toArray]); (try simp only [List.set_cons_succ]); (try simp only [List.set_cons_zero])
  refine wpAnyH_take (i := 10) (v := ?vn39) rfl (by kernel_rfl) (by kernel_rfl) (by kernel_rfl) (fun _ _ _ h => h) (Or.inl ⟨by rfl, ?hn39⟩) hS ?rn39
  case hn39 => intro w' hSw; go_simp; (try with_reducible rfl)
  (try simp only [List.getElem_toArray]); (try simp only [List.getElem_cons_succ]); (try simp only [List.getElem_cons_zero]); (try simp only [Act.put]); (try simp only [List.setIfInBounds_toArray]); (try simp only [List.set_cons_succ]); (try simp only [List.set_cons_zero])
  refine wpAnyH_take (i := 11) (v := ?vn40) rfl (by kernel_rfl) (by kernel_rfl) (by kernel_rfl) (fun _ _ _ h => h) (Or.inl ⟨by rfl, ?hn40⟩) hS ?rn40
  case hn40 => intro w' hSw; go_simp; (try with_reducible rfl)
  (try simp only [List.getElem_toArray]); (try simp only [List.getElem_cons_succ]); (try simp only [List.getElem_cons_zero]); (try simp only [Act.put]); (try simp only [List.setIfInBounds_toArray]); (try simp only [List.set_cons_succ]); (try simp only [List.set_cons_zero])
  refine wpAnyH_take (i := 12) (v := ?vn41) rfl (by kernel_rfl) (by kernel_rfl) (by kernel_rfl) (fun _ _ _ h => h) (Or.inl ⟨by rfl, ?hn41⟩) hS ?rn41
  case hn41 => intro w' hSw; go_simp; (try with_reducible rfl)
  (try simp only [List.getElem_toArray]); (try simp only [List.getElem_cons_succ]); (try simp only [List.getElem_cons_zero]); (try simp only [Act.put]); (try simp only [List.setIfInBounds_toArray]); (try simp only [List.set_cons_succ]); (try simp only [List.set_cons_zero])
  refine wpAnyH_take (i := 13) (v := .agg (cells1 (256 :: fb))) rfl (by kernel_rfl) (by kernel_rfl) (by kernel_rfl) (fun _ _ _ h => h) (yieldsIf_load_mid (by rfl) _ _ rfl gS 68 rfl (cells1 (256 :: fb)).toList _ (fun _ h => h.2) Tryz.underlying87 rfl (by rw [Array.length_toList, cells1_size, HL2.out]; kernel_rfl)) hS ?_
  (try simp only [List.getElem_toArray]); (try simp only [List.getElem_cons_succ]); (try simp only [List.getElem_cons_zero]); (try simp only [Act.put]); (try simp only [List.setIfInBounds_toArray]); (try simp only [List.set_cons_succ]); (try simp only [List.set_cons_zero])
  refine wpAnyH_ready (rs := [14]) (by kernel_rfl) (by simp) ?_
  refine AllReadyH.cons (o := _) rfl (fun K hK => ?_) AllReadyH.nil
  rw [if_pos (by rfl)]
  go_simp
  go_at_call 97
  refine (KX _ N0).mono ?_
  rintro e w1 ⟨rfl, cs, N1, hcs, O⟩
  have G1 := G0.off O hn
  have P1 : Off (b0 :: bs) w w1 := (Off.ofBelow B0).trans O
  have zB := B0.size
  have hcs2 : ∀ y ∈ cs, y ∈ bs ∨ w.heap.size ≤ y := fun y hy => by rcases hcs y hy with h | h; (exact .inl h); (right; omega)
  clear O hcs G0 N0 B0
  dsimp only
  refine hK.out _ _ (HS.out _ G1) (fun hS => ?_)
  clear hK K
  (try simp only [List.getElem_toArray]); (try simp only [List.getElem_cons_succ]); (try simp only [List.getElem_cons_zero]); (try simp only [Act.put]); (try simp only [List.setIfInBounds_toArray]); (try simp only [List.set_cons_succ]); (try simp only [List.set_cons_zero])
  refine wpAnyH_ready (rs := [15]) (by kernel_rfl) (by simp) ?_
  refine AllReadyH.cons (o := _) rfl (fun K hK => ?_) AllReadyH.nil
  rw [if_pos (by rfl)]
  go_simp
  go_at_call 96
  refine (KM _).mono ?_
  rintro e w2 ⟨rfl, hb2⟩
  have G2 := G1.keep hb2
  have N2 := N1.keep hb2
  have P2 := P1.trans (Off.ofBelow hb2)
  have zb2 := hb2.size
  dsimp only
  refine hK.out _ _ (HS.out _ G2) (fun hS => ?_)
  clear hK K
  (try simp only [List.getElem_toArray]); (try simp only [List.getElem_cons_succ]); (try simp only [List.getElem_cons_zero]); (try simp only [Act.put]); (try simp only [List.setIfInBounds_toArray]); (try simp only [List.set_cons_succ]); (try simp only [List.set_cons_zero])
  refine wpAnyH_take (i := 16) (v := ?vn42) rfl (by kernel_rfl) (by kernel_rfl) (by kernel_rfl) (fun _ _ _ h => h) (Or.inl ⟨by rfl, ?hn42⟩) hS ?rn42
  case hn42 => intro w' hSw; go_simp; (try with_reducible rfl)
  (try simp only [List.getElem_toArray]); (try simp only [List.getElem_cons_succ]); (try simp only [List.getElem_cons_zero]); (try simp only [Act.put]); (try simp only [List.setIfInBounds_toArray]); (try simp only [List.set_cons_succ]); (try simp only [List.set_cons_zero])
  refine wpAnyH_take (i := 17) (v := ?vn43) rfl (by kernel_rfl) (by kernel_rfl) (by kernel_rfl) (fun _ _ _ h => h) (Or.inl ⟨by rfl, ?hn43⟩) hS ?rn43
  case hn43 => intro w' hSw; go_simp; (try with_reducible rfl)
  (try simp only [List.getElem_toArray]); (try simp only [List.getElem_cons_succ]); (try simp only [List.getElem_cons_zero]); (try simp only [Act.put]); (try simp only [List.setIfInBounds_toArray]); (try simp only [List.set_cons_succ]); (try simp only [List.set_cons_zero])
  refine wpAnyH_ready (rs := [18]) (by kernel_rfl) (by simp) ?_
  refine AllReadyH.cons (o := _) rfl (fun K hK => ?_) AllReadyH.nil
  refine step_store_sheet rfl 87 _ _ rfl gS 5 (256 :: rs) rfl rfl G2 (by decide) HXL.out (by rw [cells1_size, HXL.out]; kernel_rfl) ?_
  intro w20 G20 O20
  have hSn := HS2.out _ G20
  refine hK.out _ _ hSn (fun hS => ?_)
  clear hK K hSn
  (try simp only [List.getElem_toArray]); (try simp only [List.getElem_cons_succ]); (try simp only [List.getElem_cons_zero]); (try simp only [Act.put]); (try simp only [List.setIfInBounds_toArray]); (try simp only [List.set_cons_succ]); (try simp only [List.set_cons_zero])
  refine wpAnyH_done (by kernel_rfl) ?_ _
  clear hS
  go_wp2
  first | go_end0 | refine bodyPost_ret (results_none rfl _ _ _) rfl ?_
  exact ⟨rfl, G20, cs, N2.off O20 (by simp; exact hn0) (fun y hy hm => by simp at hm; rcases hcs2 y hy with h | h; (exact hns (hm ▸ h)); omega), hcs2, P2.mix2 O20⟩
/-- the same where a quarrel leaves what it likes -/
def FolSt2 (w wr : World) (b0 gS : Nat) (bs : List Nat) (X : Nat → MNet) (P : Nat → Nat → List Int) (j : Nat) : Prop :=
  ∃ PP cs, (∀ i, i < 6 → (PP i).length = 17) ∧ ((X j).xQuarrel.xSome = false → PP = P j) ∧ Blk wr gS 114 (cells1 (shL PP)) ∧ NetIn wr b0 (X j) cs ∧ (∀ y ∈ cs, y ∈ bs ∨ w.heap.size ≤ y) ∧ Off (b0 :: gS :: bs) w wr ∧ ∀ k, k < j → (X k).xQuarrel.xSome = false
def StepOk2 (F : Nat) (b0 gS : Nat) (X X' : MNet) (P P' : Nat → List Int) : Prop :=
  X.xQuarrel.xSome = false → ∀ W cs, NetIn W b0 X cs → Blk W gS 114 (cells1 (shL P)) → gS ∉ b0 :: cs → Calls Tryz.prog F #[.pointer (some ⟨b0, 0, none⟩), .pointer (some ⟨gS, 0, none⟩)] W fun e w' => e = .returned (.tuple #[]) ∧ ∃ PP, (∀ i, i < 6 → (PP i).length = 17) ∧ (X'.xQuarrel.xSome = false → PP = P') ∧ Blk w' gS 114 (cells1 (shL PP)) ∧ ∃ cs', NetIn w' b0 X' cs' ∧ (∀ y ∈ cs', y ∈ cs ∨ W.heap.size ≤ y) ∧ Off (b0 :: gS :: cs) W w'
theorem StepOk.two {F b0 gS : Nat} {X X' : MNet} {P P' : Nat → List Int} (h : StepOk F b0 gS X X' P P') (hl : ∀ i, i < 6 → (P' i).length = 17) : StepOk2 F b0 gS X X' P P' := fun hq W cs hN hG hn => (h hq W cs hN hG hn).mono (by
  rintro e w1 ⟨rfl, G1, cs1, h1⟩
  exact ⟨rfl, P', hl, fun _ => rfl, G1, cs1, h1⟩)
set_option maxHeartbeats 8000000 in
set_option maxRecDepth 100000 in
theorem impl_follow_relu (X : Nat → MNet) (P : Nat → Nat → List Int) (b0 gS gF cF : Nat) (bs : List Nat) (w : World) (N : NetIn w b0 (X 0) bs) (G : Blk w gS 114 (cells1 (shL (P 0)))) (hl0 : ∀ i, i < 6 → (P 0 i).length = 17) (hn : gS ∉ b0 :: bs) (hnF : gF ∉ b0 :: gS :: bs) (lF : gF < w.heap.size)
    (c0 : w.cell? ⟨gF, 0, none⟩ = some (.func (.func 70) #[] #[])) (c1 : w.cell? ⟨gF, 1, none⟩ = some (.func (.func 71) #[] #[])) (c2 : w.cell? ⟨gF, 2, none⟩ = some (.func (.func 72) #[] #[])) (c3 : w.cell? ⟨gF, 3, none⟩ = some (.func (.func 73) #[] #[])) (c4 : w.cell? ⟨gF, 4, none⟩ = some (.func (.func 74) #[] #[]))
    (K0 : StepOk2 70 b0 gS (X 0) (X 1) (P 0) (P 1)) (K1 : StepOk2 71 b0 gS (X 1) (X 2) (P 1) (P 2)) (K2 : StepOk2 72 b0 gS (X 2) (X 3) (P 2) (P 3)) (K3 : StepOk2 73 b0 gS (X 3) (X 4) (P 3) (P 4)) (K4 : StepOk2 74 b0 gS (X 4) (X 5) (P 4) (P 5)) :
    Calls Tryz.prog 75 #[.pointer (some ⟨b0, 0, none⟩), .pointer (some ⟨gS, 0, none⟩), .slice (some ⟨gF, 0, none⟩) 5 cF] w fun e w' => e = .returned (.tuple #[]) ∧ ∃ j, j ≤ 5 ∧ ((X j).xQuarrel.xSome = true ∨ j = 5) ∧ FolSt2 w w' b0 gS bs X P j := by
  have lN := N.lt
  have lNs := N.lts
  have lG := G.lt
  have hns : gS ∉ bs := fun h => hn (List.mem_cons.2 (.inr h))
  have hn0 : gS ≠ b0 := fun h => hn (by rw [h]; simp)
  have S0 : FolSt2 w w b0 gS bs X P 0 := ⟨P 0, bs, hl0, fun _ => rfl, G, N, fun y hy => .inl hy, Off.refl _ _, fun k hk => absurd hk (Nat.not_lt_zero _)⟩
  have HK0 : Hid (StepOk2 70 b0 gS (X 0) (X 1) (P 0) (P 1)) := K0
  have HC0 : Hid (w.cell? ⟨gF, 0, none⟩ = some (.func (.func 70) #[] #[])) := c0
  clear K0 c0
  have HK1 : Hid (StepOk2 71 b0 gS (X 1) (X 2) (P 1) (P 2)) := K1
  have HC1 : Hid (w.cell? ⟨gF, 1, none⟩ = some (.func (.func 71) #[] #[])) := c1
  clear K1 c1
  have HK2 : Hid (StepOk2 72 b0 gS (X 2) (X 3) (P 2) (P 3)) := K2
  have HC2 : Hid (w.cell? ⟨gF, 2, none⟩ = some (.func (.func 72) #[] #[])) := c2
  clear K2 c2
  have HK3 : Hid (StepOk2 73 b0 gS (X 3) (X 4) (P 3) (P 4)) := K3
  have HC3 : Hid (w.cell? ⟨gF, 3, none⟩ = some (.func (.func 73) #[] #[])) := c3
  clear K3 c3
  have HK4 : Hid (StepOk2 74 b0 gS (X 4) (X 5) (P 4) (P 5)) := K4
  have HC4 : Hid (w.cell? ⟨gF, 4, none⟩ = some (.func (.func 74) #[] #[])) := c4
  clear K4 c4
  clear G N hl0
  go_enter Tryz.func75, Tryz.ntmps75
  go_wp2
  go_loopw [7, 10] (fun _ i wr => ∃ j : Nat, j ≤ 5 ∧ i = .int .i64 j ∧ FolSt2 w wr b0 gS bs X P j) (fun _ i _ => 5 - (intOf i).toNat)
  case atStart => exact ⟨0, Nat.zero_le _, rfl, S0⟩
  case round =>
    clear S0
    obtain ⟨j, hj, rfl, S⟩ := hrel
    by_cases hlt : j < 5
    · obtain ⟨PP, cs, hPl, hPe, G, N, hcs, O, hqs⟩ := S
      have c8 := N.some8
      have lb := N.lt
      have hnc : gS ∉ b0 :: cs := fun hm => by rcases List.mem_cons.1 hm with h | h; (exact hn0 h); (rcases hcs _ h with h2 | h2; (exact hns h2); omega)
      have HQS : Hid (∀ k, k < j → (X k).xQuarrel.xSome = false) := hqs
      have HCS : Hid (∀ y ∈ cs, y ∈ bs ∨ w.heap.size ≤ y) := hcs
      have zO := O.size
      clear hqs hcs
      have hjc : j = 0 ∨ j = 1 ∨ j = 2 ∨ j = 3 ∨ j = 4 := by omega
      rcases hjc with rfl | rfl | rfl | rfl | rfl
      · have cF1 : wr.cell? ⟨gF, 0, none⟩ = some (.func (.func 70) #[] #[]) := ((O.at gF lF hnF).1 _).trans HC0.out
        cases hq : (X 0).xQuarrel.xSome
        · rw [hq] at c8
          rw [hPe hq] at G
          have K := HK0.out hq wr cs N G hnc
          clear G N
          go_wp2_with fail
          refine K.mono ?_
          rintro e w1 ⟨rfl, PP1, hl1, he1, G1, cs1, N1, hcs1, O1⟩
          have S1 : FolSt2 w w1 b0 gS bs X P 1 := ⟨PP1, cs1, hl1, he1, G1, N1, fun y hy => by rcases hcs1 y hy with h | h; (exact HCS.out y h); (right; omega), O.mix O1 (fun y hy => by rcases List.mem_cons.1 hy with h | h; (left; rw [h]; simp); (rcases List.mem_cons.1 h with h | h; (left; rw [h]; simp); (rcases HCS.out y h with h2 | h2; (left; simp [h2]); (right; exact h2)))), fun k hk => by rcases Nat.lt_succ_iff_lt_or_eq.1 hk with h | h; (exact HQS.out k h); (rw [h]; exact hq)⟩
          clear K G1 N1 hcs1 O1 O cF1 c8
          go_wp2
          go_roundw
          case rel => exact ⟨1, by omega, by go_num, S1⟩
          case measure => simp [intOf]
        · rw [hq] at c8
          have S1 : FolSt2 w wr b0 gS bs X P 0 := ⟨PP, cs, hPl, hPe, G, N, HCS.out, O, HQS.out⟩
          clear G N O
          go_wp2
          first | go_end0 | go_ret | refine bodyPost_ret (results_none rfl _ _ _) rfl ?_
          exact ⟨rfl, 0, by omega, .inl hq, S1⟩
      · have cF1 : wr.cell? ⟨gF, 1, none⟩ = some (.func (.func 71) #[] #[]) := ((O.at gF lF hnF).1 _).trans HC1.out
        cases hq : (X 1).xQuarrel.xSome
        · rw [hq] at c8
          rw [hPe hq] at G
          have K := HK1.out hq wr cs N G hnc
          clear G N
          go_wp2_with fail
          refine K.mono ?_
          rintro e w1 ⟨rfl, PP1, hl1, he1, G1, cs1, N1, hcs1, O1⟩
          have S1 : FolSt2 w w1 b0 gS bs X P 2 := ⟨PP1, cs1, hl1, he1, G1, N1, fun y hy => by rcases hcs1 y hy with h | h; (exact HCS.out y h); (right; omega), O.mix O1 (fun y hy => by rcases List.mem_cons.1 hy with h | h; (left; rw [h]; simp); (rcases List.mem_cons.1 h with h | h; (left; rw [h]; simp); (rcases HCS.out y h with h2 | h2; (left; simp [h2]); (right; exact h2)))), fun k hk => by rcases Nat.lt_succ_iff_lt_or_eq.1 hk with h | h; (exact HQS.out k h); (rw [h]; exact hq)⟩
          clear K G1 N1 hcs1 O1 O cF1 c8
          go_wp2
          go_roundw
          case rel => exact ⟨2, by omega, by go_num, S1⟩
          case measure => simp [intOf]
        · rw [hq] at c8
          have S1 : FolSt2 w wr b0 gS bs X P 1 := ⟨PP, cs, hPl, hPe, G, N, HCS.out, O, HQS.out⟩
          clear G N O
          go_wp2
          first | go_end0 | go_ret | refine bodyPost_ret (results_none rfl _ _ _) rfl ?_
          exact ⟨rfl, 1, by omega, .inl hq, S1⟩
      · have cF1 : wr.cell? ⟨gF, 2, none⟩ = some (.func (.func 72) #[] #[]) := ((O.at gF lF hnF).1 _).trans HC2.out
        cases hq : (X 2).xQuarrel.xSome
        · rw [hq] at c8
          rw [hPe hq] at G
          have K := HK2.out hq wr cs N G hnc
          clear G N
          go_wp2_with fail
          refine K.mono ?_
          rintro e w1 ⟨rfl, PP1, hl1, he1, G1, cs1, N1, hcs1, O1⟩
          have S1 : FolSt2 w w1 b0 gS bs X P 3 := ⟨PP1, cs1, hl1, he1, G1, N1, fun y hy => by rcases hcs1 y hy with h | h; (exact HCS.out y h); (right; omega), O.mix O1 (fun y hy => by rcases List.mem_cons.1 hy with h | h; (left; rw [h]; simp); (rcases List.mem_cons.1 h with h | h; (left; rw [h]; simp); (rcases HCS.out y h with h2 | h2; (left; simp [h2]); (right; exact h2)))), fun k hk => by rcases Nat.lt_succ_iff_lt_or_eq.1 hk with h | h; (exact HQS.out k h); (rw [h]; exact hq)⟩
          clear K G1 N1 hcs1 O1 O cF1 c8
          go_wp2
          go_roundw
          case rel => exact ⟨3, by omega, by go_num, S1⟩
          case measure => simp [intOf]
        · rw [hq] at c8
          have S1 : FolSt2 w wr b0 gS bs X P 2 := ⟨PP, cs, hPl, hPe, G, N, HCS.out, O, HQS.out⟩
          clear G N O
          go_wp2
          first | go_end0 | go_ret | refine bodyPost_ret (results_none rfl _ _ _) rfl ?_
          exact ⟨rfl, 2, by omega, .inl hq, S1⟩
      · have cF1 : wr.cell? ⟨gF, 3, none⟩ = some (.func (.func 73) #[] #[]) := ((O.at gF lF hnF).1 _).trans HC3.out
        cases hq : (X 3).xQuarrel.xSome
        · rw [hq] at c8
          rw [hPe hq] at G
          have K := HK3.out hq wr cs N G hnc
          clear G N
          go_wp2_with fail
          refine K.mono ?_
          rintro e w1 ⟨rfl, PP1, hl1, he1, G1, cs1, N1, hcs1, O1⟩
          have S1 : FolSt2 w w1 b0 gS bs X P 4 := ⟨PP1, cs1, hl1, he1, G1, N1, fun y hy => by rcases hcs1 y hy with h | h; (exact HCS.out y h); (right; omega), O.mix O1 (fun y hy => by rcases List.mem_cons.1 hy with h | h; (left; rw [h]; simp); (rcases List.mem_cons.1 h with h | h; (left; rw [h]; simp); (rcases HCS.out y h with h2 | h2; (left; simp [h2]); (right; exact h2)))), fun k hk => by rcases Nat.lt_succ_iff_lt_or_eq.1 hk with h | h; (exact HQS.out k h); (rw [h]; exact hq)⟩
          clear K G1 N1 hcs1 O1 O cF1 c8
          go_wp2
          go_roundw
          case rel => exact ⟨4, by omega, by go_num, S1⟩
          case measure => simp [intOf]
        · rw [hq] at c8
          have S1 : FolSt2 w wr b0 gS bs X P 3 := ⟨PP, cs, hPl, hPe, G, N, HCS.out, O, HQS.out⟩
          clear G N O
          go_wp2
          first | go_end0 | go_ret | refine bodyPost_ret (results_none rfl _ _ _) rfl ?_
          exact ⟨rfl, 3, by omega, .inl hq, S1⟩
      · have cF1 : wr.cell? ⟨gF, 4, none⟩ = some (.func (.func 74) #[] #[]) := ((O.at gF lF hnF).1 _).trans HC4.out
        cases hq : (X 4).xQuarrel.xSome
        · rw [hq] at c8
          rw [hPe hq] at G
          have K := HK4.out hq wr cs N G hnc
          clear G N
          go_wp2_with fail
          refine K.mono ?_
          rintro e w1 ⟨rfl, PP1, hl1, he1, G1, cs1, N1, hcs1, O1⟩
          have S1 : FolSt2 w w1 b0 gS bs X P 5 := ⟨PP1, cs1, hl1, he1, G1, N1, fun y hy => by rcases hcs1 y hy with h | h; (exact HCS.out y h); (right; omega), O.mix O1 (fun y hy => by rcases List.mem_cons.1 hy with h | h; (left; rw [h]; simp); (rcases List.mem_cons.1 h with h | h; (left; rw [h]; simp); (rcases HCS.out y h with h2 | h2; (left; simp [h2]); (right; exact h2)))), fun k hk => by rcases Nat.lt_succ_iff_lt_or_eq.1 hk with h | h; (exact HQS.out k h); (rw [h]; exact hq)⟩
          clear K G1 N1 hcs1 O1 O cF1 c8
          go_wp2
          go_roundw
          case rel => exact ⟨5, by omega, by go_num, S1⟩
          case measure => simp [intOf]
        · rw [hq] at c8
          have S1 : FolSt2 w wr b0 gS bs X P 4 := ⟨PP, cs, hPl, hPe, G, N, HCS.out, O, HQS.out⟩
          clear G N O
          go_wp2
          first | go_end0 | go_ret | refine bodyPost_ret (results_none rfl _ _ _) rfl ?_
          exact ⟨rfl, 4, by omega, .inl hq, S1⟩
    · obtain rfl : j = 5 := by omega
      clear hlt
      go_wp2
      first | go_end0 | go_ret | refine bodyPost_ret (results_none rfl _ _ _) rfl ?_
      exact ⟨rfl, 5, Nat.le_refl _, .inr rfl, S⟩
end Go.Proofs.YtepobckhfodngaoGreat
