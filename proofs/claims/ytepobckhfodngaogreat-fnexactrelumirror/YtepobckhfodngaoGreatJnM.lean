/-
  Contracts of chapter 4: a joint message on a copied net: in the program and in its model.
-/
import Derived.Test.YtepobckhfodngaoGreatJnY
import Derived.Test.YtepobckhfodngaoGreatWhole
import Derived.Deep.CutRange
import Derived.Deep.RegionHeld3
namespace Go.Proofs.YtepobckhfodngaoGreat
open Go.ChangeShapes Go.WideShapes Go.ChangeAt Go.RowKit
set_option linter.unusedVariables false

/-- what a joint message leaves of a copied net -/
def TellPost (w w' : World) (b0 : Nat) (x : MNet) (q0 q1 : Option Addr) (gH d0 d1 d2 : Nat) (b2 : List Nat) (q fm ck : Int) (l : Nat) (a b : Int) : Prop :=
  ∃ cs, Blk w' b0 41 #[.slice q0 x.xTape.length d0, .slice q1 x.xUsed.length d1, .int .i64 (x.xSent + 2), .slice (some ⟨gH, 0, none⟩) x.xHeard.length d2, .int .i64 x.xCheat.xWho, .int .i64 x.xCheat.xAt, .int .i64 x.xCheat.xBy, .bool x.xCheat.xCry, .bool (quarN x q fm ck l a b).xSome, .int .i64 (quarN x q fm ck l a b).xFrom, .int .i64 (quarN x q fm ck l a b).xCheck, .int .i64 (quarN x q fm ck l a b).xTo, .int .i64 (quarN x q fm ck l a b).xTold, .int .i64 (quarN x q fm ck l a b).xHeard, .int .i64 (quarN x q fm ck l a b).xOther, .int .i64 (quarN x q fm ck l a b).xVowed] ∧ MatT w' (.slice (some ⟨gH, 0, none⟩) x.xHeard.length d2) (x.xHeard.set l (x.xHeard.getD l [] ++ [uT x q fm a, vT x q ck b])) cs ∧ (∀ y ∈ cs, y ∈ b2 ∨ w.heap.size ≤ y) ∧ Off (b0 :: b2) w w'
set_option maxHeartbeats 16000000 in
set_option maxRecDepth 100000 in
theorem impl_tell (b0 : Nat) (x : MNet) (q0 q1 : Option Addr) (gH d0 d1 d2 : Nat) (b2 : List Nat) (q fm ck : Int) (l : Nat) (a b : Int) (w : World) (Z : Blk w b0 41 #[.slice q0 x.xTape.length d0, .slice q1 x.xUsed.length d1, .int .i64 x.xSent, .slice (some ⟨gH, 0, none⟩) x.xHeard.length d2, .int .i64 x.xCheat.xWho, .int .i64 x.xCheat.xAt, .int .i64 x.xCheat.xBy, .bool x.xCheat.xCry, .bool x.xQuarrel.xSome, .int .i64 x.xQuarrel.xFrom, .int .i64 x.xQuarrel.xCheck, .int .i64 x.xQuarrel.xTo, .int .i64 x.xQuarrel.xTold, .int .i64 x.xQuarrel.xHeard, .int .i64 x.xQuarrel.xOther, .int .i64 x.xQuarrel.xVowed]) (H : MatT w (.slice (some ⟨gH, 0, none⟩) x.xHeard.length d2) x.xHeard b2) (nb : b0 ∉ b2) (hs : 0 ≤ x.xSent ∧ x.xSent ≤ 999990) (hq : q = 2 ∨ q = 256) (h3 : Three fm ck l) (ha : 0 ≤ a ∧ a < q) (hb : 0 ≤ b ∧ b < q) (hy : 0 ≤ x.xCheat.xBy ∧ x.xCheat.xBy ≤ 255) (hl : l < x.xHeard.length) (hrow : (x.xHeard.getD l []).length ≤ 1000000000) :
    Calls Tryz.prog 155 #[.pointer (some ⟨b0, 0, none⟩), .int .i64 q, .int .i64 fm, .int .i64 ck, .int .i64 l, .int .i64 a, .int .i64 b] w fun e w' => e = .returned (.int .i64 (uT x q fm a)) ∧ TellPost w w' b0 x q0 q1 gH d0 d1 d2 b2 q fm ck l a b := by
  obtain ⟨i1, gi, gz0, gz1, gz2⟩ := info_parts Tryz.infoI
  have iu : 0 ≤ tellV x.xCheat q x.xSent fm a ∧ tellV x.xCheat q x.xSent fm a < q := tellV_in hq ha
  have iv : 0 ≤ tellV x.xCheat q (x.xSent + 1) ck b ∧ tellV x.xCheat q (x.xSent + 1) ck b < q := tellV_in hq hb
  have hli : (l : Int) < (x.xHeard.length : Int) := by omega
  have ltb := Z.lt
  have KU := fun V => impl_told x.xCheat q x.xSent fm a V hq ha hy
  have KV := fun V => impl_told x.xCheat q (x.xSent + 1) ck b V hq hb hy
  have KC := fun V => impl_criesOut x.xCheat l x.xSent V
  have HU : Hid (uT x q fm a = tellV x.xCheat q x.xSent fm a) := rfl
  have HV : Hid (vT x q ck b = tellV x.xCheat q (x.xSent + 1) ck b) := rfl
  generalize tellV x.xCheat q x.xSent fm a = u at *
  generalize tellV x.xCheat q (x.xSent + 1) ck b = v at *
  have KZ := fun V => impl_claimed x.xCheat q ⟨true, fm, ck, l, a, u, v, b⟩ V hq iu hy ⟨h3.2.2.2.1, h3.2.2.2.2.1, h3.2.2.2.2.2⟩
  dsimp only at KZ
  have HN : Hid (u = v ∧ cryB x.xCheat l x.xSent = false → quarN x q fm ck l a b = x.xQuarrel) := fun h => by unfold quarN; rw [HU.out, HV.out, if_pos h]
  have HQ : Hid (¬ (u = v ∧ cryB x.xCheat l x.xSent = false) → quarN x q fm ck l a b = claimZ x.xCheat q ⟨true, fm, ck, l, a, u, v, b⟩) := fun h => by unfold quarN; rw [HU.out, HV.out, if_neg h]
  generalize claimZ x.xCheat q ⟨true, fm, ck, l, a, u, v, b⟩ = z' at *
  have za := Z.at.1
  have zl := Z.lt
  go_enter Tryz.func155, Tryz.ntmps155
  go_wp2_with fail
  refine (KU _).mono ?_
  rintro e w1 ⟨rfl, h1⟩
  have Z1 := Z.keep h1
  clear za zl
  have za := Z1.at.1
  have zl := Z1.lt
  go_wp2_with fail
  refine (KV _).mono ?_
  rintro e w2 ⟨rfl, h2⟩
  have Z2 := Z1.keep h2
  clear za zl
  have B2 : Below w.heap.size w w2 := h1.trans (h2.mono h1.size)
  have H2 := H.keep B2
  clear Z Z1 H h1 h2 KU KV
  have za := Z2.at.1
  have zb := Z2.at.2
  have zl := Z2.lt
  go_wp2_with fail
  have O6 : Off [b0] w2 (w2.setCell ⟨b0, 2, none⟩ (.int .i64 (x.xSent + 2))) := (Off.refl _ _).setCell _ _ (by simp)
  have Z6 : Blk (w2.setCell ⟨b0, 2, none⟩ (.int .i64 (x.xSent + 2))) b0 41 #[.slice q0 x.xTape.length d0, .slice q1 x.xUsed.length d1, .int .i64 (x.xSent + 2), .slice (some ⟨gH, 0, none⟩) x.xHeard.length d2, .int .i64 x.xCheat.xWho, .int .i64 x.xCheat.xAt, .int .i64 x.xCheat.xBy, .bool x.xCheat.xCry, .bool x.xQuarrel.xSome, .int .i64 x.xQuarrel.xFrom, .int .i64 x.xQuarrel.xCheck, .int .i64 x.xQuarrel.xTo, .int .i64 x.xQuarrel.xTold, .int .i64 x.xQuarrel.xHeard, .int .i64 x.xQuarrel.xOther, .int .i64 x.xQuarrel.xVowed] := Blk.of_eq (Z2.set 2 _) (by simp)
  have H6 := H2.off O6 (fun y hy hm => by simp at hm; exact nb (by rw [← hm]; exact hy))
  have OA : Off (b0 :: b2) w (w2.setCell ⟨b0, 2, none⟩ (.int .i64 (x.xSent + 2))) := (Off.ofBelow B2).trans (O6.mono (by simp))
  clear za zb zl Z2 H2 O6
  generalize w2.setCell ⟨b0, 2, none⟩ (.int .i64 (x.xSent + 2)) = w6 at *
  go_cut [15, 16, 17] from 48 (fun s15 s16 s17 wr => s15 = .int .i64 x.xSent ∧ s16 = .int .i64 u ∧ s17 = .int .i64 v ∧ ∃ cs, Blk wr b0 41 #[.slice q0 x.xTape.length d0, .slice q1 x.xUsed.length d1, .int .i64 (x.xSent + 2), .slice (some ⟨gH, 0, none⟩) x.xHeard.length d2, .int .i64 x.xCheat.xWho, .int .i64 x.xCheat.xAt, .int .i64 x.xCheat.xBy, .bool x.xCheat.xCry, .bool x.xQuarrel.xSome, .int .i64 x.xQuarrel.xFrom, .int .i64 x.xQuarrel.xCheck, .int .i64 x.xQuarrel.xTo, .int .i64 x.xQuarrel.xTold, .int .i64 x.xQuarrel.xHeard, .int .i64 x.xQuarrel.xOther, .int .i64 x.xQuarrel.xVowed] ∧ MatT wr (.slice (some ⟨gH, 0, none⟩) x.xHeard.length d2) (x.xHeard.set l (x.xHeard.getD l [] ++ [u, v])) cs ∧ (∀ y ∈ cs, y ∈ b2 ∨ w6.heap.size ≤ y) ∧ Off b2 w6 wr)
  case first =>
    obtain ⟨vr, bt, It, ct, ft, nHt, gin, bin, AFTER⟩ := H6.grow l hl
    have nzt : b0 ∉ bt := fun h => nb (bin _ h)
    have ltH : gH < w6.heap.size := H6.lt _ gin
    have nzH : b0 ≠ gH := fun h => nb (by rw [h]; exact gin)
    obtain ⟨pr, cr, rfl⟩ := Own.value It
    have AFTERH := (show Hid _ from AFTER)
    clear AFTER
    generalize hrw : x.xHeard.getD l [] = row at *
    have hrl : row.length ≤ 1000000000 := hrow
    refine wp_region_held (S := fun V => (∀ o, V.cell? ⟨b0, o, none⟩ = (#[.slice q0 x.xTape.length d0, .slice q1 x.xUsed.length d1, .int .i64 (x.xSent + 2), .slice (some ⟨gH, 0, none⟩) x.xHeard.length d2, .int .i64 x.xCheat.xWho, .int .i64 x.xCheat.xAt, .int .i64 x.xCheat.xBy, .bool x.xCheat.xCry, .bool x.xQuarrel.xSome, .int .i64 x.xQuarrel.xFrom, .int .i64 x.xQuarrel.xCheck, .int .i64 x.xQuarrel.xTo, .int .i64 x.xQuarrel.xTold, .int .i64 x.xQuarrel.xHeard, .int .i64 x.xQuarrel.xOther, .int .i64 x.xQuarrel.xVowed] : Array Value)[o]?)) (by kernel_rfl) ?_
    try (change wpAnyH _ _ _ _ _ _ _ _ (World.drew _))
    have Zd : Blk w6.drew b0 41 #[.slice q0 x.xTape.length d0, .slice q1 x.xUsed.length d1, .int .i64 (x.xSent + 2), .slice (some ⟨gH, 0, none⟩) x.xHeard.length d2, .int .i64 x.xCheat.xWho, .int .i64 x.xCheat.xAt, .int .i64 x.xCheat.xBy, .bool x.xCheat.xCry, .bool x.xQuarrel.xSome, .int .i64 x.xQuarrel.xFrom, .int .i64 x.xQuarrel.xCheck, .int .i64 x.xQuarrel.xTo, .int .i64 x.xQuarrel.xTold, .int .i64 x.xQuarrel.xHeard, .int .i64 x.xQuarrel.xOther, .int .i64 x.xQuarrel.xVowed] := Z6.drew
    have hS : (∀ o, w6.drew.cell? ⟨b0, o, none⟩ = (#[.slice q0 x.xTape.length d0, .slice q1 x.xUsed.length d1, .int .i64 (x.xSent + 2), .slice (some ⟨gH, 0, none⟩) x.xHeard.length d2, .int .i64 x.xCheat.xWho, .int .i64 x.xCheat.xAt, .int .i64 x.xCheat.xBy, .bool x.xCheat.xCry, .bool x.xQuarrel.xSome, .int .i64 x.xQuarrel.xFrom, .int .i64 x.xQuarrel.xCheck, .int .i64 x.xQuarrel.xTo, .int .i64 x.xQuarrel.xTold, .int .i64 x.xQuarrel.xHeard, .int .i64 x.xQuarrel.xOther, .int .i64 x.xQuarrel.xVowed] : Array Value)[o]?) := Zd.at.1
    have Itd : IntsT w6.drew (.slice pr row.length cr) row bt := It.keep (Below.refl _ _).drew
    have ctd : w6.drew.cell? ⟨gH, l, none⟩ = some (.slice pr row.length cr) := ct
    refine wpAnyH_take (i := 0) (v := .pointer (some ⟨b0, 0, none⟩)) rfl (by kernel_rfl) (by kernel_rfl) (by kernel_rfl) (fun _ _ _ h => h) (Or.inl ⟨by rfl, ?_⟩) hS ?_
    · intro w' hSw
      go_simp
    (try simp only [List.getElem_toArray]); (try simp only [List.getElem_cons_succ]); (try simp only [List.getElem_cons_zero]); (try simp only [Act.put]); (try simp only [List.setIfInBounds_toArray]); (try simp only [List.set_cons_succ]); (try simp only [List.set_cons_zero])
    refine wpAnyH_take (i := 1) (v := .pointer (some ⟨b0, 0, none⟩)) rfl (by kernel_rfl) (by kernel_rfl) (by kernel_rfl) (fun _ _ _ h => h) (Or.inl ⟨by rfl, ?_⟩) hS ?_
    · intro w' hSw
      go_simp
    (try simp only [List.getElem_toArray]); (try simp only [List.getElem_cons_succ]); (try simp only [List.getElem_cons_zero]); (try simp only [Act.put]); (try simp only [List.setIfInBounds_toArray]); (try simp only [List.set_cons_succ]); (try simp only [List.set_cons_zero])
    refine wpAnyH_take (i := 2) (v := .pointer (some ⟨b0, 3, none⟩)) rfl (by kernel_rfl) (by kernel_rfl) (by kernel_rfl) (fun _ _ _ h => h) (Or.inl ⟨by rfl, ?_⟩) hS ?_
    · intro w' hSw
      go_simp
    (try simp only [List.getElem_toArray]); (try simp only [List.getElem_cons_succ]); (try simp only [List.getElem_cons_zero]); (try simp only [Act.put]); (try simp only [List.setIfInBounds_toArray]); (try simp only [List.set_cons_succ]); (try simp only [List.set_cons_zero])
    refine wpAnyH_take (i := 3) (v := .slice (some ⟨gH, 0, none⟩) x.xHeard.length d2) rfl (by kernel_rfl) (by kernel_rfl) (by kernel_rfl) (fun _ _ _ h => h) (Or.inl ⟨by rfl, ?_⟩) hS ?_
    · intro w' hSw
      go_simp
    (try simp only [List.getElem_toArray]); (try simp only [List.getElem_cons_succ]); (try simp only [List.getElem_cons_zero]); (try simp only [Act.put]); (try simp only [List.setIfInBounds_toArray]); (try simp only [List.set_cons_succ]); (try simp only [List.set_cons_zero])
    refine wpAnyH_take (i := 4) (v := .int .i64 l) rfl (by kernel_rfl) (by kernel_rfl) (by kernel_rfl) (fun _ _ _ h => h) (Or.inl ⟨by rfl, ?_⟩) hS ?_
    · intro w' hSw
      go_simp
    (try simp only [List.getElem_toArray]); (try simp only [List.getElem_cons_succ]); (try simp only [List.getElem_cons_zero]); (try simp only [Act.put]); (try simp only [List.setIfInBounds_toArray]); (try simp only [List.set_cons_succ]); (try simp only [List.set_cons_zero])
    refine wpAnyH_take (i := 5) (v := .pointer (some ⟨b0, 0, none⟩)) rfl (by kernel_rfl) (by kernel_rfl) (by kernel_rfl) (fun _ _ _ h => h) (Or.inl ⟨by rfl, ?_⟩) hS ?_
    · intro w' hSw
      go_simp
    (try simp only [List.getElem_toArray]); (try simp only [List.getElem_cons_succ]); (try simp only [List.getElem_cons_zero]); (try simp only [Act.put]); (try simp only [List.setIfInBounds_toArray]); (try simp only [List.set_cons_succ]); (try simp only [List.set_cons_zero])
    refine wpAnyH_take (i := 6) (v := .pointer (some ⟨b0, 0, none⟩)) rfl (by kernel_rfl) (by kernel_rfl) (by kernel_rfl) (fun _ _ _ h => h) (Or.inl ⟨by rfl, ?_⟩) hS ?_
    · intro w' hSw
      go_simp
    (try simp only [List.getElem_toArray]); (try simp only [List.getElem_cons_succ]); (try simp only [List.getElem_cons_zero]); (try simp only [Act.put]); (try simp only [List.setIfInBounds_toArray]); (try simp only [List.set_cons_succ]); (try simp only [List.set_cons_zero])
    refine wpAnyH_take (i := 7) (v := .pointer (some ⟨b0, 3, none⟩)) rfl (by kernel_rfl) (by kernel_rfl) (by kernel_rfl) (fun _ _ _ h => h) (Or.inl ⟨by rfl, ?_⟩) hS ?_
    · intro w' hSw
      go_simp
    (try simp only [List.getElem_toArray]); (try simp only [List.getElem_cons_succ]); (try simp only [List.getElem_cons_zero]); (try simp only [Act.put]); (try simp only [List.setIfInBounds_toArray]); (try simp only [List.set_cons_succ]); (try simp only [List.set_cons_zero])
    refine wpAnyH_take (i := 8) (v := .slice (some ⟨gH, 0, none⟩) x.xHeard.length d2) rfl (by kernel_rfl) (by kernel_rfl) (by kernel_rfl) (fun _ _ _ h => h) (Or.inl ⟨by rfl, ?_⟩) hS ?_
    · intro w' hSw
      go_simp
    (try simp only [List.getElem_toArray]); (try simp only [List.getElem_cons_succ]); (try simp only [List.getElem_cons_zero]); (try simp only [Act.put]); (try simp only [List.setIfInBounds_toArray]); (try simp only [List.set_cons_succ]); (try simp only [List.set_cons_zero])
    refine wpAnyH_take (i := 9) (v := .int .i64 l) rfl (by kernel_rfl) (by kernel_rfl) (by kernel_rfl) (fun _ _ _ h => h) (Or.inl ⟨by rfl, ?_⟩) hS ?_
    · intro w' hSw
      go_simp
    (try simp only [List.getElem_toArray]); (try simp only [List.getElem_cons_succ]); (try simp only [List.getElem_cons_zero]); (try simp only [Act.put]); (try simp only [List.setIfInBounds_toArray]); (try simp only [List.set_cons_succ]); (try simp only [List.set_cons_zero])
    refine wpAnyH_take (i := 10) (v := .pointer (some ⟨gH, l, none⟩)) rfl (by kernel_rfl) (by kernel_rfl) (by kernel_rfl) (fun _ _ _ h => h) (Or.inl ⟨by rfl, ?_⟩) hS ?_
    · intro w' hSw
      go_simp
    (try simp only [List.getElem_toArray]); (try simp only [List.getElem_cons_succ]); (try simp only [List.getElem_cons_zero]); (try simp only [Act.put]); (try simp only [List.setIfInBounds_toArray]); (try simp only [List.set_cons_succ]); (try simp only [List.set_cons_zero])
    refine wpAnyH_take (i := 12) (v := .int .i64 u) rfl (by kernel_rfl) (by kernel_rfl) (by kernel_rfl) (fun _ _ _ h => h) (Or.inl ⟨by rfl, ?_⟩) hS ?_
    · intro w' hSw
      go_simp
    (try simp only [List.getElem_toArray]); (try simp only [List.getElem_cons_succ]); (try simp only [List.getElem_cons_zero]); (try simp only [Act.put]); (try simp only [List.setIfInBounds_toArray]); (try simp only [List.set_cons_succ]); (try simp only [List.set_cons_zero])
    refine wpAnyH_take (i := 13) (v := .int .i64 v) rfl (by kernel_rfl) (by kernel_rfl) (by kernel_rfl) (fun _ _ _ h => h) (Or.inl ⟨by rfl, ?_⟩) hS ?_
    · intro w' hSw
      go_simp
    (try simp only [List.getElem_toArray]); (try simp only [List.getElem_cons_succ]); (try simp only [List.getElem_cons_zero]); (try simp only [Act.put]); (try simp only [List.setIfInBounds_toArray]); (try simp only [List.set_cons_succ]); (try simp only [List.set_cons_zero])
    refine wpAnyH_ready (rs := [11, 14]) (by kernel_rfl) (by simp) ?_
    refine AllReadyH.cons (o := _) rfl (fun K hK => ?_) (AllReadyH.cons (o := _) rfl (fun K hK => ?_) AllReadyH.nil)
    · rw [if_pos (by rfl)]
      go_simp
      refine hK.out _ _ hS (fun hS => ?_)
      clear hK K
      (try simp only [List.getElem_toArray]); (try simp only [List.getElem_cons_succ]); (try simp only [List.getElem_cons_zero]); (try simp only [Act.put]); (try simp only [List.setIfInBounds_toArray]); (try simp only [List.set_cons_succ]); (try simp only [List.set_cons_zero])
      refine wpAnyH_ready (rs := [14]) (by kernel_rfl) (by simp) ?_
      refine AllReadyH.cons (o := _) rfl (fun K hK => ?_) AllReadyH.nil
      rw [if_pos (by rfl)]
      go_simp
      refine hK.out _ _ (Zd.alloc (.cells #[.int .i64 u, .int .i64 v] 2)).at.1 (fun hS => ?_)
      clear hK K
      (try simp only [List.getElem_toArray]); (try simp only [List.getElem_cons_succ]); (try simp only [List.getElem_cons_zero]); (try simp only [Act.put]); (try simp only [List.setIfInBounds_toArray]); (try simp only [List.set_cons_succ]); (try simp only [List.set_cons_zero])
      refine wpAnyH_ready (rs := [15]) (by kernel_rfl) (by simp) ?_
      refine AllReadyH.cons (o := _) rfl (fun K hK => ?_) AllReadyH.nil
      refine step_append_Own rfl (.tmp 59) (.tmp 62) 25 rfl 2 i1 (.int .i64 0) 1 8 Tryz.underlying25 gi gz0 gz1 gz2 rfl (by decide) (.slice pr row.length cr) row.length (row.map (Value.int .i64)) bt rfl (Own.alloc Itd _) ⟨w6.heap.size, 0, none⟩ 2 2 [.int .i64 u, .int .i64 v] rfl rfl (World.news_of_block (Blk.new w6.drew 2 #[.int .i64 u, .int .i64 v])) (by intro y hy; simp at hy; rcases hy with rfl | rfl <;> rfl) (by omega) (by unfold maxLen; omega) (by omega) ?_
      intro g cap w7 hO7 hF7 hg7
      have Z7 := (Zd.alloc (.cells #[.int .i64 u, .int .i64 v] 2)).off hF7 nzt
      have ltH2 : gH < (w6.drew.alloc (.cells #[.int .i64 u, .int .i64 v] 2)).heap.size := by simp; exact Nat.lt_succ_of_lt ltH
      have c7 : w7.cell? ⟨gH, l, none⟩ = some (.slice pr row.length cr) := ((hF7.at gH ltH2 nHt).1 l).trans ((((Below.refl w6.drew.heap.size w6.drew).alloc (Nat.le_refl _) (.cells #[.int .i64 u, .int .i64 v] 2)).cell (p := ⟨gH, l, none⟩) ltH).trans ctd)
      have f7 : w7.frozen? ⟨gH, l, none⟩ = false := ((hF7.at gH ltH2 nHt).2 l).trans ((((Below.refl w6.drew.heap.size w6.drew).alloc (Nat.le_refl _) (.cells #[.int .i64 u, .int .i64 v] 2)).frozen (p := ⟨gH, l, none⟩) ltH).trans ft)
      refine hK.out _ _ Z7.at.1 (fun hS => ?_)
      clear hK K
      (try simp only [List.getElem_toArray]); (try simp only [List.getElem_cons_succ]); (try simp only [List.getElem_cons_zero]); (try simp only [Act.put]); (try simp only [List.setIfInBounds_toArray]); (try simp only [List.set_cons_succ]); (try simp only [List.set_cons_zero])
      refine wpAnyH_take (i := 16) (v := .pointer (some ⟨gH, l, none⟩)) rfl (by kernel_rfl) (by kernel_rfl) (by kernel_rfl) (fun _ _ _ h => h) (Or.inl ⟨by rfl, ?_⟩) hS ?_
      · intro w' hSw
        go_simp
      (try simp only [List.getElem_toArray]); (try simp only [List.getElem_cons_succ]); (try simp only [List.getElem_cons_zero]); (try simp only [Act.put]); (try simp only [List.setIfInBounds_toArray]); (try simp only [List.set_cons_succ]); (try simp only [List.set_cons_zero])
      refine wpAnyH_ready (rs := [17]) (by kernel_rfl) (by simp) ?_
      refine AllReadyH.cons (o := _) rfl (fun K hK => ?_) AllReadyH.nil
      rw [if_pos (by rfl)]
      go_simp
      have oF : Off bt w6 w7 := (((Off.refl bt w6).drew).alloc (.cells #[.int .i64 u, .int .i64 v] 2)).trans hF7
      have Z8 := Z7.setOther ⟨gH, l, none⟩ (.slice (some ⟨g, 0, none⟩) (row.length + 2) cap) (by simp; omega)
      refine hK.out _ _ Z8.at.1 (fun hS => ?_)
      clear hK K
      refine wpAnyH_done (by kernel_rfl) ?_ _
      obtain ⟨cs, M8, hcs⟩ := AFTERH.out w7 (.slice (some ⟨g, 0, none⟩) (row.length + 2) cap) (row ++ [u, v]) g oF (by unfold IntsT; simpa using hO7) (hg7.imp id (fun h => by (try simp at h); omega))
      have hcs2 : ∀ y ∈ cs, y ∈ b2 ∨ w6.heap.size ≤ y := fun y hy => (hcs y hy).elim .inl (fun e => by rw [e]; exact hg7.elim (fun h => .inl (bin g (by rw [h]; simp))) (fun h => .inr (by (try simp at h); omega)))
      have oG : Off b2 w6 (w7.setCell ⟨gH, l, none⟩ (.slice (some ⟨g, 0, none⟩) (row.length + 2) cap)) := (oF.mono bin).setCell _ _ (.inl gin)
      subst hrw
      go_wp2
      go_meet
      case rel => exact ⟨rfl, rfl, rfl, cs, Z8, M8, hcs2, oG⟩
    · rw [if_pos (by rfl)]
      go_simp
      refine hK.out _ _ (Zd.alloc (.cells #[.int .i64 u, .int .i64 v] 2)).at.1 (fun hS => ?_)
      clear hK K
      (try simp only [List.getElem_toArray]); (try simp only [List.getElem_cons_succ]); (try simp only [List.getElem_cons_zero]); (try simp only [Act.put]); (try simp only [List.setIfInBounds_toArray]); (try simp only [List.set_cons_succ]); (try simp only [List.set_cons_zero])
      have cta : (w6.drew.alloc (.cells #[.int .i64 u, .int .i64 v] 2)).cell? ⟨gH, l, none⟩ = some (.slice pr row.length cr) := (((Below.refl w6.drew.heap.size w6.drew).alloc (Nat.le_refl _) (.cells #[.int .i64 u, .int .i64 v] 2)).cell (p := ⟨gH, l, none⟩) ltH).trans ctd
      refine wpAnyH_ready (rs := [11]) (by kernel_rfl) (by simp) ?_
      refine AllReadyH.cons (o := _) rfl (fun K hK => ?_) AllReadyH.nil
      rw [if_pos (by rfl)]
      go_simp
      refine hK.out _ _ hS (fun hS => ?_)
      clear hK K
      (try simp only [List.getElem_toArray]); (try simp only [List.getElem_cons_succ]); (try simp only [List.getElem_cons_zero]); (try simp only [Act.put]); (try simp only [List.setIfInBounds_toArray]); (try simp only [List.set_cons_succ]); (try simp only [List.set_cons_zero])
      refine wpAnyH_ready (rs := [15]) (by kernel_rfl) (by simp) ?_
      refine AllReadyH.cons (o := _) rfl (fun K hK => ?_) AllReadyH.nil
      refine step_append_Own rfl (.tmp 59) (.tmp 62) 25 rfl 2 i1 (.int .i64 0) 1 8 Tryz.underlying25 gi gz0 gz1 gz2 rfl (by decide) (.slice pr row.length cr) row.length (row.map (Value.int .i64)) bt rfl (Own.alloc Itd _) ⟨w6.heap.size, 0, none⟩ 2 2 [.int .i64 u, .int .i64 v] rfl rfl (World.news_of_block (Blk.new w6.drew 2 #[.int .i64 u, .int .i64 v])) (by intro y hy; simp at hy; rcases hy with rfl | rfl <;> rfl) (by omega) (by unfold maxLen; omega) (by omega) ?_
      intro g cap w7 hO7 hF7 hg7
      have Z7 := (Zd.alloc (.cells #[.int .i64 u, .int .i64 v] 2)).off hF7 nzt
      have ltH2 : gH < (w6.drew.alloc (.cells #[.int .i64 u, .int .i64 v] 2)).heap.size := by simp; exact Nat.lt_succ_of_lt ltH
      have c7 : w7.cell? ⟨gH, l, none⟩ = some (.slice pr row.length cr) := ((hF7.at gH ltH2 nHt).1 l).trans ((((Below.refl w6.drew.heap.size w6.drew).alloc (Nat.le_refl _) (.cells #[.int .i64 u, .int .i64 v] 2)).cell (p := ⟨gH, l, none⟩) ltH).trans ctd)
      have f7 : w7.frozen? ⟨gH, l, none⟩ = false := ((hF7.at gH ltH2 nHt).2 l).trans ((((Below.refl w6.drew.heap.size w6.drew).alloc (Nat.le_refl _) (.cells #[.int .i64 u, .int .i64 v] 2)).frozen (p := ⟨gH, l, none⟩) ltH).trans ft)
      refine hK.out _ _ Z7.at.1 (fun hS => ?_)
      clear hK K
      (try simp only [List.getElem_toArray]); (try simp only [List.getElem_cons_succ]); (try simp only [List.getElem_cons_zero]); (try simp only [Act.put]); (try simp only [List.setIfInBounds_toArray]); (try simp only [List.set_cons_succ]); (try simp only [List.set_cons_zero])
      refine wpAnyH_take (i := 16) (v := .pointer (some ⟨gH, l, none⟩)) rfl (by kernel_rfl) (by kernel_rfl) (by kernel_rfl) (fun _ _ _ h => h) (Or.inl ⟨by rfl, ?_⟩) hS ?_
      · intro w' hSw
        go_simp
      (try simp only [List.getElem_toArray]); (try simp only [List.getElem_cons_succ]); (try simp only [List.getElem_cons_zero]); (try simp only [Act.put]); (try simp only [List.setIfInBounds_toArray]); (try simp only [List.set_cons_succ]); (try simp only [List.set_cons_zero])
      refine wpAnyH_ready (rs := [17]) (by kernel_rfl) (by simp) ?_
      refine AllReadyH.cons (o := _) rfl (fun K hK => ?_) AllReadyH.nil
      rw [if_pos (by rfl)]
      go_simp
      have oF : Off bt w6 w7 := (((Off.refl bt w6).drew).alloc (.cells #[.int .i64 u, .int .i64 v] 2)).trans hF7
      have Z8 := Z7.setOther ⟨gH, l, none⟩ (.slice (some ⟨g, 0, none⟩) (row.length + 2) cap) (by simp; omega)
      refine hK.out _ _ Z8.at.1 (fun hS => ?_)
      clear hK K
      refine wpAnyH_done (by kernel_rfl) ?_ _
      obtain ⟨cs, M8, hcs⟩ := AFTERH.out w7 (.slice (some ⟨g, 0, none⟩) (row.length + 2) cap) (row ++ [u, v]) g oF (by unfold IntsT; simpa using hO7) (hg7.imp id (fun h => by (try simp at h); omega))
      have hcs2 : ∀ y ∈ cs, y ∈ b2 ∨ w6.heap.size ≤ y := fun y hy => (hcs y hy).elim .inl (fun e => by rw [e]; exact hg7.elim (fun h => .inl (bin g (by rw [h]; simp))) (fun h => .inr (by (try simp at h); omega)))
      have oG : Off b2 w6 (w7.setCell ⟨gH, l, none⟩ (.slice (some ⟨g, 0, none⟩) (row.length + 2) cap)) := (oF.mono bin).setCell _ _ (.inl gin)
      subst hrw
      go_wp2
      go_meet
      case rel => exact ⟨rfl, rfl, rfl, cs, Z8, M8, hcs2, oG⟩
  case rest =>
    obtain ⟨rfl, rfl, rfl, cs, Z7, M7, hcs, O7⟩ := hcut
    have OB := OA.trans (O7.mono (fun y hy => by simp [hy]))
    have hcs2 : ∀ y ∈ cs, y ∈ b2 ∨ w.heap.size ≤ y := fun y hy => (hcs y hy).imp id (fun h => Nat.le_trans OA.size h)
    clear hcs O7 OA Z6 H6 B2
    obtain ⟨w7, ew7⟩ : ∃ x : World, x = wc := ⟨_, rfl⟩
    subst ew7
    have za := Z7.at.1
    have zl := Z7.lt
    by_cases huv : u = v
    · have e1 : (u != v) = false := by simpa using huv
      cases hc : cryB x.xCheat l x.xSent
      · have HE := HN.out ⟨huv, hc⟩
        rw [hc] at KC
        clear huv hc
        go_wp2_with fail
        refine (KC _).mono ?_
        rintro e w8 ⟨rfl, h8⟩
        clear za zl
        have Z8 := Z7.keep h8
        have M8 := M7.keep h8
        have OC := OB.trans (Off.ofBelow h8)
        go_wp2
        go_ret
        exact ⟨by rw [HU.out]; rfl, cs, by rw [HE]; exact Z8, by rw [HU.out, HV.out]; exact M8, hcs2, OC⟩
      · have hnq : ¬ (u = v ∧ cryB x.xCheat l x.xSent = false) := fun h => by rw [hc] at h; cases h.2
        have HH : Hid (¬ (u = v ∧ cryB x.xCheat l x.xSent = false)) := hnq
        rw [hc] at KC
        clear huv hc hnq
        go_wp2_with fail
        refine (KC _).mono ?_
        rintro e w8 ⟨rfl, h8⟩
        clear za zl
        replace Z7 := Z7.keep h8
        replace M7 := M7.keep h8
        replace OB := OB.trans (Off.ofBelow h8)
        have za := Z7.at.1
        have zl := Z7.lt
        clear h8
        have HE := HQ.out (HH.out)
        go_wp2_with fail
        refine (KZ _).mono ?_
        rintro e w9 ⟨rfl, h9⟩
        clear za zl
        have Z9 := Z7.keep h9
        have M9 := M7.keep h9
        have OD := OB.trans (Off.ofBelow h9)
        clear Z7 M7 OB h9
        go_wp2_with (refine wpList_store_tail rfl 39 _ _ rfl b0 8 (qcells z') rfl rfl Z9 rfl (by kernel_rfl) (by kernel_rfl) ?_; intro w10 Z10 O10)
        have Z11 : Blk w10 b0 41 #[.slice q0 x.xTape.length d0, .slice q1 x.xUsed.length d1, .int .i64 (x.xSent + 2), .slice (some ⟨gH, 0, none⟩) x.xHeard.length d2, .int .i64 x.xCheat.xWho, .int .i64 x.xCheat.xAt, .int .i64 x.xCheat.xBy, .bool x.xCheat.xCry, .bool z'.xSome, .int .i64 z'.xFrom, .int .i64 z'.xCheck, .int .i64 z'.xTo, .int .i64 z'.xTold, .int .i64 z'.xHeard, .int .i64 z'.xOther, .int .i64 z'.xVowed] := Z10
        have M11 := M9.off O10 (fun y hy hm => by simp at hm; exact (hcs2 y hy).elim (fun h => nb (by rw [← hm]; exact h)) (fun h => by omega))
        have OE := OD.trans (O10.mono (by simp))
        go_ret
        exact ⟨by rw [HU.out]; rfl, cs, by rw [HE]; exact Z11, by rw [HU.out, HV.out]; exact M11, hcs2, OE⟩
    · have e1 : (u != v) = true := by simpa using huv
      have HH : Hid (¬ (u = v ∧ cryB x.xCheat l x.xSent = false)) := fun h => huv h.1
      clear huv
      have HE := HQ.out (HH.out)
      go_wp2_with fail
      refine (KZ _).mono ?_
      rintro e w9 ⟨rfl, h9⟩
      clear za zl
      have Z9 := Z7.keep h9
      have M9 := M7.keep h9
      have OD := OB.trans (Off.ofBelow h9)
      clear Z7 M7 OB h9
      go_wp2_with (refine wpList_store_tail rfl 39 _ _ rfl b0 8 (qcells z') rfl rfl Z9 rfl (by kernel_rfl) (by kernel_rfl) ?_; intro w10 Z10 O10)
      have Z11 : Blk w10 b0 41 #[.slice q0 x.xTape.length d0, .slice q1 x.xUsed.length d1, .int .i64 (x.xSent + 2), .slice (some ⟨gH, 0, none⟩) x.xHeard.length d2, .int .i64 x.xCheat.xWho, .int .i64 x.xCheat.xAt, .int .i64 x.xCheat.xBy, .bool x.xCheat.xCry, .bool z'.xSome, .int .i64 z'.xFrom, .int .i64 z'.xCheck, .int .i64 z'.xTo, .int .i64 z'.xTold, .int .i64 z'.xHeard, .int .i64 z'.xOther, .int .i64 z'.xVowed] := Z10
      have M11 := M9.off O10 (fun y hy hm => by simp at hm; exact (hcs2 y hy).elim (fun h => nb (by rw [← hm]; exact h)) (fun h => by omega))
      have OE := OD.trans (O10.mono (by simp))
      go_ret
      exact ⟨by rw [HU.out]; rfl, cs, by rw [HE]; exact Z11, by rw [HU.out, HV.out]; exact M11, hcs2, OE⟩
end Go.Proofs.YtepobckhfodngaoGreat
