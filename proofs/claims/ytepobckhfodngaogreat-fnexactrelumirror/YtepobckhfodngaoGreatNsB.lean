/-
  The step that puts both lifted pairs together, in the program; steps one behind the other.
-/
import Derived.Test.YtepobckhfodngaoGreatNsA
namespace Go.Proofs.YtepobckhfodngaoGreat
open Go.ChangeShapes Go.WideShapes Go.ChangeAt Go.RowKit
set_option linter.unusedVariables false
set_option maxHeartbeats 8000000 in
set_option maxRecDepth 100000 in
theorem impl_belowStep (b0 gS : Nat) (x : MNet) (bs : List Nat) (m : Nat) (P : Nat → List Int) (fa fb : List Int) (w : World) (N : NetIn w b0 x bs) (B : NetB m x) (hm : m ≤ 199970) (G : Blk w gS 114 (cells1 (shL P))) (h2 : P 2 = 256 :: fa) (h3 : P 3 = 256 :: fb) (ha : Ok16 256 fa) (hb : Ok16 256 fb) (hn : gS ∉ b0 :: bs) :
    Calls Tryz.prog 73 #[.pointer (some ⟨b0, 0, none⟩), .pointer (some ⟨gS, 0, none⟩)] w fun e w' => e = .returned (.tuple #[]) ∧ Blk w' gS 114 (cells1 (shL (updP P 4 (256 :: xrF fa fb x)))) ∧ ∃ cs, NetIn w' b0 (prX 256 fa fb x) cs ∧ (∀ y ∈ cs, y ∈ bs ∨ w.heap.size ≤ y) ∧ Off (b0 :: gS :: bs) w w' := by
  have hP2 : (P 2).length = 17 := by rw [h2, List.length_cons, ha.1]
  have hP3 : (P 3).length = 17 := by rw [h3, List.length_cons, hb.1]
  have HL1 : Hid (((256 : Int) :: fa).length = 17) := by show _ = _; rw [List.length_cons, ha.1]
  have HL2 : Hid (((256 : Int) :: fb).length = 17) := by show _ = _; rw [List.length_cons, hb.1]
  have KX := fun W hN => impl_xor 256 fa fb b0 x bs m W hN B hm ha hb
  have HXL : Hid ((256 :: xrF fa fb x).length = 17) := by show _ = _; rw [List.length_cons, (xrF_ok _ _ _).1]
  have lN := N.lt
  have lNs := N.lts
  have lG := G.lt
  have hns : gS ∉ bs := fun h => hn (List.mem_cons.2 (.inr h))
  have hn0 : b0 ≠ gS := fun h => hn (by rw [h]; simp)
  have HS : Hid (∀ V, Blk V gS 114 (cells1 (shL P)) → V.rangeAt gS 34 (cells1 (256 :: fa)).toList ∧ V.rangeAt gS 51 (cells1 (256 :: fb)).toList) := fun V h => ⟨by have := shL_range h 2 (by decide) hP2; rwa [h2] at this, by have := shL_range h 3 (by decide) hP3; rwa [h3] at this⟩
  have HS2 : Hid (∀ V, Blk V gS 114 (cells1 (shL (updP P 4 (256 :: xrF fa fb x)))) → V.rangeAt gS 34 (cells1 (256 :: fa)).toList ∧ V.rangeAt gS 51 (cells1 (256 :: fb)).toList) := fun V h => ⟨by have := shL_range h 2 (by decide) (by rw [updP_ne P _ (by decide)]; exact hP2); rwa [updP_ne P _ (by decide), h2] at this, by have := shL_range h 3 (by decide) (by rw [updP_ne P _ (by decide)]; exact hP3); rwa [updP_ne P _ (by decide), h3] at this⟩
  go_enter Tryz.func73, Tryz.ntmps73
  refine wp_region_held (S := fun V => V.rangeAt gS 34 (cells1 (256 :: fa)).toList ∧ V.rangeAt gS 51 (cells1 (256 :: fb)).toList) (by kernel_rfl) ?_
  try (change wpAnyH _ _ _ _ _ _ _ _ (World.drew _))
  have G0 := G.drew
  have N0 : NetIn w.drew b0 x bs := N.keep (Below.refl _ _).drew
  have B0 : Below w.heap.size w w.drew := (Below.refl _ _).drew
  have hS := HS.out _ G0
  clear G N
  generalize w.drew = w0 at *
  clear hP2 hP3
  generalize prX 256 fa fb x = x2 at *
  generalize xrF fa fb x = rs at *
  refine wpAnyH_take (i := 0) (v := ?vn21) rfl (by kernel_rfl) (by kernel_rfl) (by kernel_rfl) (fun _ _ _ h => h) (Or.inl ⟨by rfl, ?hn21⟩) hS ?rn21
  case hn21 => intro w' hSw; go_simp; (try with_reducible rfl)
  (try simp only [List.getElem_toArray]); (try simp only [List.getElem_cons_succ]); (try simp only [List.getElem_cons_zero]); (try simp only [Act.put]); (try simp only [List.setIfInBounds_toArray]); (try simp only [List.set_cons_succ]); (try simp only [List.set_cons_zero])
  refine wpAnyH_take (i := 1) (v := ?vn22) rfl (by kernel_rfl) (by kernel_rfl) (by kernel_rfl) (fun _ _ _ h => h) (Or.inl ⟨by rfl, ?hn22⟩) hS ?rn22
  case hn22 => intro w' hSw; go_simp; (try with_reducible rfl)
  (try simp only [List.getElem_toArray]); (try simp only [List.getElem_cons_succ]); (try simp only [List.getElem_cons_zero]); (try simp only [Act.put]); (try simp only [List.setIfInBounds_toArray]); (try simp only [List.set_cons_succ]); (try simp only [List.set_cons_zero])
  refine wpAnyH_take (i := 2) (v := ?vn23) rfl (by kernel_rfl) (by kernel_rfl) (by kernel_rfl) (fun _ _ _ h => h) (Or.inl ⟨by rfl, ?hn23⟩) hS ?rn23
  case hn23 => intro w' hSw; go_simp; (try with_reducible rfl)
  (try simp only [List.getElem_toArray]); (try simp only [List.getElem_cons_succ]); (try simp only [List.getElem_cons_zero]); (try simp only [Act.put]); (try simp only [List.setIfInBounds_toArray]); (try simp only [List.set_cons_succ]); (try simp only [List.set_cons_zero])
  refine wpAnyH_take (i := 3) (v := ?vn24) rfl (by kernel_rfl) (by kernel_rfl) (by kernel_rfl) (fun _ _ _ h => h) (Or.inl ⟨by rfl, ?hn24⟩) hS ?rn24
  case hn24 => intro w' hSw; go_simp; (try with_reducible rfl)
  (try simp only [List.getElem_toArray]); (try simp only [List.getElem_cons_succ]); (try simp only [List.getElem_cons_zero]); (try simp only [Act.put]); (try simp only [List.setIfInBounds_toArray]); (try simp only [List.set_cons_succ]); (try simp only [List.set_cons_zero])
  refine wpAnyH_take (i := 4) (v := ?vn25) rfl (by kernel_rfl) (by kernel_rfl) (by kernel_rfl) (fun _ _ _ h => h) (Or.inl ⟨by rfl, ?hn25⟩) hS ?rn25
  case hn25 => intro w' hSw; go_simp; (try with_reducible rfl)
  (try simp only [List.getElem_toArray]); (try simp only [List.getElem_cons_succ]); (try simp only [List.getElem_cons_zero]); (try simp only [Act.put]); (try simp only [List.setIfInBounds_toArray]); (try simp only [List.set_cons_succ]); (try simp only [List.set_cons_zero])
  refine wpAnyH_take (i := 5) (v := .agg (cells1 (256 :: fa))) rfl (by kernel_rfl) (by kernel_rfl) (by kernel_rfl) (fun _ _ _ h => h) (yieldsIf_load_mid (by rfl) _ _ rfl gS 34 rfl (cells1 (256 :: fa)).toList _ (fun _ h => h.1) Tryz.underlying87 rfl (by rw [Array.length_toList, cells1_size, HL1.out]; kernel_rfl)) hS ?_
  (try simp only [List.getElem_toArray]); (try simp only [List.getElem_cons_succ]); (try simp only [List.getElem_cons_zero]); (try simp only [Act.put]); (try simp only [List.setIfInBounds_toArray]); (try simp only [List.set_cons_succ]); (try simp only [List.set_cons_zero])
  refine wpAnyH_take (i := 6) (v := ?vn26) rfl (by kernel_rfl) (by kernel_rfl) (by kernel_rfl) (fun _ _ _ h => h) (Or.inl ⟨by rfl, ?hn26⟩) hS ?rn26
  case hn26 => intro w' hSw; go_simp; (try with_reducible rfl)
  (try simp only [List.getElem_toArray]); (try simp only [List.getElem_cons_succ]); (try simp only [List.getElem_cons_zero]); (try simp only [Act.put]); (try simp only [List.setIfInBounds_toArray]); (try simp only [List.set_cons_succ]); (try simp only [List.set_cons_zero])
  refine wpAnyH_take (i := 7) (v := ?vn27) rfl (by kernel_rfl) (by kernel_rfl) (by kernel_rfl) (fun _ _ _ h => h) (Or.inl ⟨by rfl, ?hn27⟩) hS ?rn27
  case hn27 => intro w' hSw; go_simp; (try with_reducible rfl)
  (try simp only [List.getElem_toArray]); (try simp only [List.getElem_cons_succ]); (try simp only [List.getElem_cons_zero]); (try simp only [Act.put]); (try simp only [List.setIfInBounds_toArray]); (try simp only [List.set_cons_succ]); (try simp only [List.set_cons_zero])
  refine wpAnyH_take (i := 8) (v := ?vn28) rfl (by kernel_rfl) (by kernel_rfl) (by kernel_rfl) (fun _ _ _ h => h) (Or.inl ⟨by rfl, ?hn28⟩) hS ?rn28
  case hn28 => intro w' hSw; go_simp; (try with_reducible rfl)
  (try simp only [List.getElem_toArray]); (try simp only [List.getElem_cons_succ]); (try simp only [List.getElem_cons_zero]); (try simp only [Act.put]); (try simp only [List.setIfInBounds_toArray]); (try simp only [List.set_cons_succ]); (try simp only [List.set_cons_zero])
  refine wpAnyH_take (i := 9) (v := .agg (cells1 (256 :: fb))) rfl (by kernel_rfl) (by kernel_rfl) (by kernel_rfl) (fun _ _ _ h => h) (yieldsIf_load_mid (by rfl) _ _ rfl gS 51 rfl (cells1 (256 :: fb)).toList _ (fun _ h => h.2) Tryz.underlying87 rfl (by rw [Array.length_toList, cells1_size, HL2.out]; kernel_rfl)) hS ?_
  (try simp only [List.getElem_toArray]); (try simp only [List.getElem_cons_succ]); (try simp only [List.getElem_cons_zero]); (try simp only [Act.put]); (try simp only [List.setIfInBounds_toArray]); (try simp only [List.set_cons_succ]); (try simp only [List.set_cons_zero])
  refine wpAnyH_ready (rs := [10]) (by kernel_rfl) (by simp) ?_
  refine AllReadyH.cons (o := _) rfl (fun K hK => ?_) AllReadyH.nil
  rw [if_pos (by rfl)]
  go_simp
  go_at_call 94
  refine (KX _ N0).mono ?_
  rintro e w1 ⟨rfl, cs, N1, hcs, O⟩
  have G1 := G0.off O hn
  have P1 : Off (b0 :: bs) w w1 := (Off.ofBelow B0).trans O
  have zB := B0.size
  have hcs2 : ∀ y ∈ cs, y ∈ bs ∨ w.heap.size ≤ y := fun y hy => by rcases hcs y hy with h | h; (exact .inl h); (right; omega)
  clear O hcs G0 N0 B0
  dsimp only
  refine hK.out _ _ (HS.out _ G1) (fun hS => ?_)
  clear hK K
  (try simp only [List.getElem_toArray]); (try simp only [List.getElem_cons_succ]); (try simp only [List.getElem_cons_zero]); (try simp only [Act.put]); (try simp only [List.setIfInBounds_toArray]); (try simp only [List.set_cons_succ]); (try simp only [List.set_cons_zero])
  refine wpAnyH_take (i := 11) (v := ?vn29) rfl (by kernel_rfl) (by kernel_rfl) (by kernel_rfl) (fun _ _ _ h => h) (Or.inl ⟨by rfl, ?hn29⟩) hS ?rn29
  case hn29 => intro w' hSw; go_simp; (try with_reducible rfl)
  (try simp only [List.getElem_toArray]); (try simp only [List.getElem_cons_succ]); (try simp only [List.getElem_cons_zero]); (try simp only [Act.put]); (try simp only [List.setIfInBounds_toArray]); (try simp only [List.set_cons_succ]); (try simp only [List.set_cons_zero])
  refine wpAnyH_take (i := 12) (v := ?vn30) rfl (by kernel_rfl) (by kernel_rfl) (by kernel_rfl) (fun _ _ _ h => h) (Or.inl ⟨by rfl, ?hn30⟩) hS ?rn30
  case hn30 => intro w' hSw; go_simp; (try with_reducible rfl)
  (try simp only [List.getElem_toArray]); (try simp only [List.getElem_cons_succ]); (try simp only [List.getElem_cons_zero]); (try simp only [Act.put]); (try simp only [List.setIfInBounds_toArray]); (try simp only [List.set_cons_succ]); (try simp only [List.set_cons_zero])
  refine wpAnyH_ready (rs := [13]) (by kernel_rfl) (by simp) ?_
  refine AllReadyH.cons (o := _) rfl (fun K hK => ?_) AllReadyH.nil
  refine step_store_sheet rfl 87 _ _ rfl gS 4 (256 :: rs) rfl rfl G1 (by decide) HXL.out (by rw [cells1_size, HXL.out]; kernel_rfl) ?_
  intro w20 G20 O20
  have hSn := HS2.out _ G20
  refine hK.out _ _ hSn (fun hS => ?_)
  clear hK K hSn
  (try simp only [List.getElem_toArray]); (try simp only [List.getElem_cons_succ]); (try simp only [List.getElem_cons_zero]); (try simp only [Act.put]); (try simp only [List.setIfInBounds_toArray]); (try simp only [List.set_cons_succ]); (try simp only [List.set_cons_zero])
  refine wpAnyH_done (by kernel_rfl) ?_ _
  clear hS
  go_wp2
  first | go_end0 | refine bodyPost_ret (results_none rfl _ _ _) rfl ?_
  exact ⟨rfl, G20, cs, N1.off O20 (by simp; exact hn0) (fun y hy hm => by simp at hm; rcases hcs2 y hy with h | h; (exact hns (hm ▸ h)); omega), hcs2, P1.mix2 O20⟩
/-- where the steps stand: j of them are done, and none of the nets ahead has a quarrel -/
def FolSt (w wr : World) (b0 gS : Nat) (bs : List Nat) (X : Nat → MNet) (P : Nat → Nat → List Int) (j : Nat) : Prop :=
  ∃ cs, Blk wr gS 114 (cells1 (shL (P j))) ∧ NetIn wr b0 (X j) cs ∧ (∀ y ∈ cs, y ∈ bs ∨ w.heap.size ≤ y) ∧ Off (b0 :: gS :: bs) w wr ∧ ∀ k, k < j → (X k).xQuarrel.xSome = false
def StepOk (F : Nat) (b0 gS : Nat) (X X' : MNet) (P P' : Nat → List Int) : Prop :=
  X.xQuarrel.xSome = false → ∀ W cs, NetIn W b0 X cs → Blk W gS 114 (cells1 (shL P)) → gS ∉ b0 :: cs → Calls Tryz.prog F #[.pointer (some ⟨b0, 0, none⟩), .pointer (some ⟨gS, 0, none⟩)] W fun e w' => e = .returned (.tuple #[]) ∧ Blk w' gS 114 (cells1 (shL P')) ∧ ∃ cs', NetIn w' b0 X' cs' ∧ (∀ y ∈ cs', y ∈ cs ∨ W.heap.size ≤ y) ∧ Off (b0 :: gS :: cs) W w'
set_option maxHeartbeats 8000000 in
set_option maxRecDepth 100000 in
theorem impl_follow_inject (X : Nat → MNet) (P : Nat → Nat → List Int) (b0 gS gF cF : Nat) (bs : List Nat) (w : World) (N : NetIn w b0 (X 0) bs) (G : Blk w gS 114 (cells1 (shL (P 0)))) (hn : gS ∉ b0 :: bs) (hnF : gF ∉ b0 :: gS :: bs) (lF : gF < w.heap.size)
    (c0 : w.cell? ⟨gF, 0, none⟩ = some (.func (.func 71) #[] #[])) (c1 : w.cell? ⟨gF, 1, none⟩ = some (.func (.func 72) #[] #[])) (c2 : w.cell? ⟨gF, 2, none⟩ = some (.func (.func 73) #[] #[]))
    (K0 : StepOk 71 b0 gS (X 0) (X 1) (P 0) (P 1)) (K1 : StepOk 72 b0 gS (X 1) (X 2) (P 1) (P 2)) (K2 : StepOk 73 b0 gS (X 2) (X 3) (P 2) (P 3)) :
    Calls Tryz.prog 75 #[.pointer (some ⟨b0, 0, none⟩), .pointer (some ⟨gS, 0, none⟩), .slice (some ⟨gF, 0, none⟩) 3 cF] w fun e w' => e = .returned (.tuple #[]) ∧ ∃ j, j ≤ 3 ∧ ((X j).xQuarrel.xSome = true ∨ j = 3) ∧ FolSt w w' b0 gS bs X P j := by
  have lN := N.lt
  have lNs := N.lts
  have lG := G.lt
  have hns : gS ∉ bs := fun h => hn (List.mem_cons.2 (.inr h))
  have hn0 : gS ≠ b0 := fun h => hn (by rw [h]; simp)
  have S0 : FolSt w w b0 gS bs X P 0 := ⟨bs, G, N, fun y hy => .inl hy, Off.refl _ _, fun k hk => absurd hk (Nat.not_lt_zero _)⟩
  have HK0 : Hid (StepOk 71 b0 gS (X 0) (X 1) (P 0) (P 1)) := K0
  have HC0 : Hid (w.cell? ⟨gF, 0, none⟩ = some (.func (.func 71) #[] #[])) := c0
  clear K0 c0
  have HK1 : Hid (StepOk 72 b0 gS (X 1) (X 2) (P 1) (P 2)) := K1
  have HC1 : Hid (w.cell? ⟨gF, 1, none⟩ = some (.func (.func 72) #[] #[])) := c1
  clear K1 c1
  have HK2 : Hid (StepOk 73 b0 gS (X 2) (X 3) (P 2) (P 3)) := K2
  have HC2 : Hid (w.cell? ⟨gF, 2, none⟩ = some (.func (.func 73) #[] #[])) := c2
  clear K2 c2
  clear G N
  go_enter Tryz.func75, Tryz.ntmps75
  go_wp2
  go_loopw [7, 10] (fun _ i wr => ∃ j : Nat, j ≤ 3 ∧ i = .int .i64 j ∧ FolSt w wr b0 gS bs X P j) (fun _ i _ => 3 - (intOf i).toNat)
  case atStart => exact ⟨0, Nat.zero_le _, rfl, S0⟩
  case round =>
    clear S0
    obtain ⟨j, hj, rfl, S⟩ := hrel
    by_cases hlt : j < 3
    · obtain ⟨cs, G, N, hcs, O, hqs⟩ := S
      have c8 := N.some8
      have lb := N.lt
      have hnc : gS ∉ b0 :: cs := fun hm => by rcases List.mem_cons.1 hm with h | h; (exact hn0 h); (rcases hcs _ h with h2 | h2; (exact hns h2); omega)
      have HQS : Hid (∀ k, k < j → (X k).xQuarrel.xSome = false) := hqs
      have HCS : Hid (∀ y ∈ cs, y ∈ bs ∨ w.heap.size ≤ y) := hcs
      have zO := O.size
      clear hqs hcs
      have hjc : j = 0 ∨ j = 1 ∨ j = 2 := by omega
      rcases hjc with rfl | rfl | rfl
      · have cF1 : wr.cell? ⟨gF, 0, none⟩ = some (.func (.func 71) #[] #[]) := ((O.at gF lF hnF).1 _).trans HC0.out
        cases hq : (X 0).xQuarrel.xSome
        · rw [hq] at c8
          have K := HK0.out hq wr cs N G hnc
          clear G N
          go_wp2_with fail
          refine K.mono ?_
          rintro e w1 ⟨rfl, G1, cs1, N1, hcs1, O1⟩
          have S1 : FolSt w w1 b0 gS bs X P 1 := ⟨cs1, G1, N1, fun y hy => by rcases hcs1 y hy with h | h; (exact HCS.out y h); (right; omega), O.mix O1 (fun y hy => by rcases List.mem_cons.1 hy with h | h; (left; rw [h]; simp); (rcases List.mem_cons.1 h with h | h; (left; rw [h]; simp); (rcases HCS.out y h with h2 | h2; (left; simp [h2]); (right; exact h2)))), fun k hk => by rcases Nat.lt_succ_iff_lt_or_eq.1 hk with h | h; (exact HQS.out k h); (rw [h]; exact hq)⟩
          clear K G1 N1 hcs1 O1 O cF1 c8
          go_wp2
          go_roundw
          case rel => exact ⟨1, by omega, by go_num, S1⟩
          case measure => simp [intOf]
        · rw [hq] at c8
          have S1 : FolSt w wr b0 gS bs X P 0 := ⟨cs, G, N, HCS.out, O, HQS.out⟩
          clear G N O
          go_wp2
          first | go_end0 | go_ret | refine bodyPost_ret (results_none rfl _ _ _) rfl ?_
          exact ⟨rfl, 0, by omega, .inl hq, S1⟩
      · have cF1 : wr.cell? ⟨gF, 1, none⟩ = some (.func (.func 72) #[] #[]) := ((O.at gF lF hnF).1 _).trans HC1.out
        cases hq : (X 1).xQuarrel.xSome
        · rw [hq] at c8
          have K := HK1.out hq wr cs N G hnc
          clear G N
          go_wp2_with fail
          refine K.mono ?_
          rintro e w1 ⟨rfl, G1, cs1, N1, hcs1, O1⟩
          have S1 : FolSt w w1 b0 gS bs X P 2 := ⟨cs1, G1, N1, fun y hy => by rcases hcs1 y hy with h | h; (exact HCS.out y h); (right; omega), O.mix O1 (fun y hy => by rcases List.mem_cons.1 hy with h | h; (left; rw [h]; simp); (rcases List.mem_cons.1 h with h | h; (left; rw [h]; simp); (rcases HCS.out y h with h2 | h2; (left; simp [h2]); (right; exact h2)))), fun k hk => by rcases Nat.lt_succ_iff_lt_or_eq.1 hk with h | h; (exact HQS.out k h); (rw [h]; exact hq)⟩
          clear K G1 N1 hcs1 O1 O cF1 c8
          go_wp2
          go_roundw
          case rel => exact ⟨2, by omega, by go_num, S1⟩
          case measure => simp [intOf]
        · rw [hq] at c8
          have S1 : FolSt w wr b0 gS bs X P 1 := ⟨cs, G, N, HCS.out, O, HQS.out⟩
          clear G N O
          go_wp2
          first | go_end0 | go_ret | refine bodyPost_ret (results_none rfl _ _ _) rfl ?_
          exact ⟨rfl, 1, by omega, .inl hq, S1⟩
      · have cF1 : wr.cell? ⟨gF, 2, none⟩ = some (.func (.func 73) #[] #[]) := ((O.at gF lF hnF).1 _).trans HC2.out
        cases hq : (X 2).xQuarrel.xSome
        · rw [hq] at c8
          have K := HK2.out hq wr cs N G hnc
          clear G N
          go_wp2_with fail
          refine K.mono ?_
          rintro e w1 ⟨rfl, G1, cs1, N1, hcs1, O1⟩
          have S1 : FolSt w w1 b0 gS bs X P 3 := ⟨cs1, G1, N1, fun y hy => by rcases hcs1 y hy with h | h; (exact HCS.out y h); (right; omega), O.mix O1 (fun y hy => by rcases List.mem_cons.1 hy with h | h; (left; rw [h]; simp); (rcases List.mem_cons.1 h with h | h; (left; rw [h]; simp); (rcases HCS.out y h with h2 | h2; (left; simp [h2]); (right; exact h2)))), fun k hk => by rcases Nat.lt_succ_iff_lt_or_eq.1 hk with h | h; (exact HQS.out k h); (rw [h]; exact hq)⟩
          clear K G1 N1 hcs1 O1 O cF1 c8
          go_wp2
          go_roundw
          case rel => exact ⟨3, by omega, by go_num, S1⟩
          case measure => simp [intOf]
        · rw [hq] at c8
          have S1 : FolSt w wr b0 gS bs X P 2 := ⟨cs, G, N, HCS.out, O, HQS.out⟩
          clear G N O
          go_wp2
          first | go_end0 | go_ret | refine bodyPost_ret (results_none rfl _ _ _) rfl ?_
          exact ⟨rfl, 2, by omega, .inl hq, S1⟩
    · obtain rfl : j = 3 := by omega
      clear hlt
      go_wp2
      first | go_end0 | go_ret | refine bodyPost_ret (results_none rfl _ _ _) rfl ?_
      exact ⟨rfl, 3, Nat.le_refl _, .inr rfl, S⟩
end Go.Proofs.YtepobckhfodngaoGreat
