/-
  Contracts of chapter 4: a joint message on a copied net: in the model.
-/
import Derived.Test.YtepobckhfodngaoGreatJnM
import Derived.Deep.QuietTactic
import Derived.BigQuiet
namespace Go.Proofs.YtepobckhfodngaoGreat
open Go.ChangeShapes Go.WideShapes Go.ChangeAt Go.RowKit
set_option linter.unusedVariables false

theorem Off.later {bs cs : List Nat} {w w1 w2 : World} (h : Off bs w w1) (k : Off cs w1 w2) (hc : ∀ y ∈ cs, w.heap.size ≤ y) : Off bs w w2 :=
  ⟨k.os.trans h.os, k.tape.trans h.tape, k.output.trans h.output, Nat.le_trans h.size k.size, fun i hi hn => (k.block i (Nat.lt_of_lt_of_le hi h.size) (fun hm => by have := hc i hm; omega)).trans (h.block i hi hn)⟩
theorem Blk.drewN {w : World} {b : Nat} {T : TypeId} {cs : Array Value} (h : Blk w b T cs) (n : Nat) : Blk (w.drewN n) b T cs := h.keep (below_drewN (Below.refl _ _) n)
set_option maxHeartbeats 16000000 in
set_option maxRecDepth 100000 in
theorem spec_l4Joint (b0 : Nat) (x : MNet) (q0 q1 : Option Addr) (gH d0 d1 d2 : Nat) (b2 : List Nat) (q fm ck : Int) (l : Nat) (a b : Int) (w : World) (Z : Blk w b0 41 #[.slice q0 x.xTape.length d0, .slice q1 x.xUsed.length d1, .int .i64 x.xSent, .slice (some ⟨gH, 0, none⟩) x.xHeard.length d2, .int .i64 x.xCheat.xWho, .int .i64 x.xCheat.xAt, .int .i64 x.xCheat.xBy, .bool x.xCheat.xCry, .bool x.xQuarrel.xSome, .int .i64 x.xQuarrel.xFrom, .int .i64 x.xQuarrel.xCheck, .int .i64 x.xQuarrel.xTo, .int .i64 x.xQuarrel.xTold, .int .i64 x.xQuarrel.xHeard, .int .i64 x.xQuarrel.xOther, .int .i64 x.xQuarrel.xVowed]) (H : MatT w (.slice (some ⟨gH, 0, none⟩) x.xHeard.length d2) x.xHeard b2) (nb : b0 ∉ b2) (hs : 0 ≤ x.xSent ∧ x.xSent ≤ 999990) (hq : q = 2 ∨ q = 256) (h3 : Three fm ck l) (ha : 0 ≤ a ∧ a < q) (hb : 0 ≤ b ∧ b < q) (hy : 0 ≤ x.xCheat.xBy ∧ x.xCheat.xBy ≤ 255) (hl : l < x.xHeard.length) (hrow : (x.xHeard.getD l []).length ≤ 1000000000) :
    Calls Tryz.prog 111 #[.pointer (some ⟨b0, 0, none⟩), .int .i64 q, .agg #[.bool false, .int .i64 fm, .int .i64 ck, .int .i64 l, .int .i64 a, .int .i64 0, .int .i64 0, .int .i64 b]] w fun e w' => e = .returned (.int .i64 (uT x q fm a)) ∧ TellPost w w' b0 x q0 q1 gH d0 d1 d2 b2 q fm ck l a b := by
  obtain ⟨i1, gi, gz0, gz1, gz2⟩ := info_parts Tryz.infoI
  have iu : 0 ≤ tellV x.xCheat q x.xSent fm a ∧ tellV x.xCheat q x.xSent fm a < q := tellV_in hq ha
  have iv : 0 ≤ tellV x.xCheat q (x.xSent + 1) ck b ∧ tellV x.xCheat q (x.xSent + 1) ck b < q := tellV_in hq hb
  have hli : (l : Int) < (x.xHeard.length : Int) := by omega
  have ltb := Z.lt
  have hS2 : (x.xSent + 1 + 1 : Int) = x.xSent + 2 := by omega
  have nbz : b0 ∉ [w.heap.size] := fun h => by simp at h; omega
  have X0 := Blk.new w 39 #[.bool false, .int .i64 fm, .int .i64 ck, .int .i64 l, .int .i64 a, .int .i64 0, .int .i64 0, .int .i64 b]
  have Z0 := Z.alloc (.cells #[.bool false, .int .i64 fm, .int .i64 ck, .int .i64 l, .int .i64 a, .int .i64 0, .int .i64 0, .int .i64 b] 39)
  have H0 := H.alloc (.cells #[.bool false, .int .i64 fm, .int .i64 ck, .int .i64 l, .int .i64 a, .int .i64 0, .int .i64 0, .int .i64 b] 39)
  have O0 : Off (b0 :: b2) w (w.alloc (.cells #[.bool false, .int .i64 fm, .int .i64 ck, .int .i64 l, .int .i64 a, .int .i64 0, .int .i64 0, .int .i64 b] 39)) := (Off.refl _ _).alloc _
  have ltm := H.lt
  have nzz : w.heap.size ∉ [b0] := fun h => by simp at h; omega
  have nxb : w.heap.size ∉ b2 := fun h => by have := ltm _ h; omega
  have nzb : b0 ≠ w.heap.size := by omega
  clear ltm
  have K1 := spec_l4Tell b0 x q0 q1 (some ⟨gH, 0, none⟩) x.xTape.length x.xUsed.length x.xHeard.length d0 d1 d2 x.xSent q fm a _ Z0 (by omega) hq (by omega) hy
  have K2 := fun w1 Z1 => spec_l4Tell b0 x q0 q1 (some ⟨gH, 0, none⟩) x.xTape.length x.xUsed.length x.xHeard.length d0 d1 d2 (x.xSent + 1) q ck b w1 Z1 (by omega) hq (by omega) hy
  rw [hS2] at K2
  clear hS2
  have HU : Hid (uT x q fm a = tellV x.xCheat q x.xSent fm a) := rfl
  have HV : Hid (vT x q ck b = tellV x.xCheat q (x.xSent + 1) ck b) := rfl
  generalize tellV x.xCheat q x.xSent fm a = u at *
  generalize tellV x.xCheat q (x.xSent + 1) ck b = v at *
  have HN : Hid (u = v ∧ cryB x.xCheat l x.xSent = false → quarN x q fm ck l a b = x.xQuarrel) := fun h => by unfold quarN; rw [HU.out, HV.out, if_pos h]
  have HQ : Hid (¬ (u = v ∧ cryB x.xCheat l x.xSent = false) → quarN x q fm ck l a b = claimZ x.xCheat q ⟨true, fm, ck, l, a, u, v, b⟩) := fun h => by unfold quarN; rw [HU.out, HV.out, if_neg h]
  have za := Z0.at.1
  have zl := Z0.lt
  have xa := X0.at.1
  have xl := X0.lt
  go_enter Tryz.func111, Tryz.ntmps111
  go_wp2_with fail
  refine K1.mono ?_
  rintro e w1 ⟨rfl, Z1, o1⟩
  clear za zl xa xl
  have X1 := X0.off o1 nzz
  replace H0 := H0.off o1 (fun y hy hm => by simp at hm; exact nb (by rw [← hm]; exact hy))
  replace O0 := O0.trans (o1.mono (by simp))
  clear Z Z0 X0 H o1 K1
  generalize hbz : w.heap.size = bz at *
  have HBZ : Hid (w.heap.size = bz) := hbz
  clear hbz
  have xa := X1.at.1
  have xl := X1.lt
  go_wp2_with fail
  refine (K2 w1 Z1).mono ?_
  rintro e w6 ⟨rfl, Z6, o2⟩
  clear xa xl
  have X6 := X1.off o2 nzz
  have H6 := H0.off o2 (fun y hy hm => by simp at hm; exact nb (by rw [← hm]; exact hy))
  have OA := O0.trans (o2.mono (by simp))
  clear Z1 X1 H0 O0 o2 K2
  go_wp2_with fail
  go_cut [7, 8, 9] from 29 (fun s7 s8 s9 wr => s7 = .int .i64 x.xSent ∧ s8 = .int .i64 u ∧ s9 = .int .i64 v ∧ ∃ cs, Blk wr b0 41 #[.slice q0 x.xTape.length d0, .slice q1 x.xUsed.length d1, .int .i64 (x.xSent + 2), .slice (some ⟨gH, 0, none⟩) x.xHeard.length d2, .int .i64 x.xCheat.xWho, .int .i64 x.xCheat.xAt, .int .i64 x.xCheat.xBy, .bool x.xCheat.xCry, .bool x.xQuarrel.xSome, .int .i64 x.xQuarrel.xFrom, .int .i64 x.xQuarrel.xCheck, .int .i64 x.xQuarrel.xTo, .int .i64 x.xQuarrel.xTold, .int .i64 x.xQuarrel.xHeard, .int .i64 x.xQuarrel.xOther, .int .i64 x.xQuarrel.xVowed] ∧ MatT wr (.slice (some ⟨gH, 0, none⟩) x.xHeard.length d2) (x.xHeard.set l (x.xHeard.getD l [] ++ [u, v])) cs ∧ (∀ y ∈ cs, y ∈ b2 ∨ w6.heap.size ≤ y) ∧ Off b2 w6 wr)
  case first =>
    obtain ⟨vr, bt, It, ct, ft, nHt, gin, bin, AFTER⟩ := H6.grow l hl
    have nzt : b0 ∉ bt := fun h => nb (bin _ h)
    have ltH : gH < w6.heap.size := H6.lt _ gin
    have nxt : bz ∉ bt := fun h => nxb (bin _ h)
    have nxH : bz ≠ gH := fun h => nxb (by rw [h]; exact gin)
    have nzH : b0 ≠ gH := fun h => nb (by rw [h]; exact gin)
    obtain ⟨pr, cr, rfl⟩ := Own.value It
    have AFTERH := (show Hid _ from AFTER)
    clear AFTER
    generalize hrw : x.xHeard.getD l [] = row at *
    have hrl : row.length ≤ 1000000000 := hrow
    refine wp_region_held (S := fun V => (∀ o, V.cell? ⟨b0, o, none⟩ = (#[.slice q0 x.xTape.length d0, .slice q1 x.xUsed.length d1, .int .i64 (x.xSent + 2), .slice (some ⟨gH, 0, none⟩) x.xHeard.length d2, .int .i64 x.xCheat.xWho, .int .i64 x.xCheat.xAt, .int .i64 x.xCheat.xBy, .bool x.xCheat.xCry, .bool x.xQuarrel.xSome, .int .i64 x.xQuarrel.xFrom, .int .i64 x.xQuarrel.xCheck, .int .i64 x.xQuarrel.xTo, .int .i64 x.xQuarrel.xTold, .int .i64 x.xQuarrel.xHeard, .int .i64 x.xQuarrel.xOther, .int .i64 x.xQuarrel.xVowed] : Array Value)[o]?) ∧ (∀ o, V.cell? ⟨bz, o, none⟩ = (#[.bool false, .int .i64 fm, .int .i64 ck, .int .i64 l, .int .i64 a, .int .i64 0, .int .i64 0, .int .i64 b] : Array Value)[o]?)) (by kernel_rfl) ?_
    try (change wpAnyH _ _ _ _ _ _ _ _ (World.drew _))
    have Zd : Blk w6.drew b0 41 #[.slice q0 x.xTape.length d0, .slice q1 x.xUsed.length d1, .int .i64 (x.xSent + 2), .slice (some ⟨gH, 0, none⟩) x.xHeard.length d2, .int .i64 x.xCheat.xWho, .int .i64 x.xCheat.xAt, .int .i64 x.xCheat.xBy, .bool x.xCheat.xCry, .bool x.xQuarrel.xSome, .int .i64 x.xQuarrel.xFrom, .int .i64 x.xQuarrel.xCheck, .int .i64 x.xQuarrel.xTo, .int .i64 x.xQuarrel.xTold, .int .i64 x.xQuarrel.xHeard, .int .i64 x.xQuarrel.xOther, .int .i64 x.xQuarrel.xVowed] := Z6.drew
    have Xd := X6.drew
    have hS : (∀ o, w6.drew.cell? ⟨b0, o, none⟩ = (#[.slice q0 x.xTape.length d0, .slice q1 x.xUsed.length d1, .int .i64 (x.xSent + 2), .slice (some ⟨gH, 0, none⟩) x.xHeard.length d2, .int .i64 x.xCheat.xWho, .int .i64 x.xCheat.xAt, .int .i64 x.xCheat.xBy, .bool x.xCheat.xCry, .bool x.xQuarrel.xSome, .int .i64 x.xQuarrel.xFrom, .int .i64 x.xQuarrel.xCheck, .int .i64 x.xQuarrel.xTo, .int .i64 x.xQuarrel.xTold, .int .i64 x.xQuarrel.xHeard, .int .i64 x.xQuarrel.xOther, .int .i64 x.xQuarrel.xVowed] : Array Value)[o]?) ∧ (∀ o, w6.drew.cell? ⟨bz, o, none⟩ = (#[.bool false, .int .i64 fm, .int .i64 ck, .int .i64 l, .int .i64 a, .int .i64 0, .int .i64 0, .int .i64 b] : Array Value)[o]?) := ⟨Zd.at.1, Xd.at.1⟩
    have Itd : IntsT w6.drew (.slice pr row.length cr) row bt := It.keep (Below.refl _ _).drew
    have ctd : w6.drew.cell? ⟨gH, l, none⟩ = some (.slice pr row.length cr) := ct
    refine wpAnyH_take (i := 0) (v := .pointer (some ⟨b0, 0, none⟩)) rfl (by kernel_rfl) (by kernel_rfl) (by kernel_rfl) (fun _ _ _ h => h) (Or.inl ⟨by rfl, ?_⟩) hS ?_
    · intro w' hSw
      go_simp
    (try simp only [List.getElem_toArray]); (try simp only [List.getElem_cons_succ]); (try simp only [List.getElem_cons_zero]); (try simp only [Act.put]); (try simp only [List.setIfInBounds_toArray]); (try simp only [List.set_cons_succ]); (try simp only [List.set_cons_zero])
    refine wpAnyH_take (i := 1) (v := .pointer (some ⟨b0, 0, none⟩)) rfl (by kernel_rfl) (by kernel_rfl) (by kernel_rfl) (fun _ _ _ h => h) (Or.inl ⟨by rfl, ?_⟩) hS ?_
    · intro w' hSw
      go_simp
    (try simp only [List.getElem_toArray]); (try simp only [List.getElem_cons_succ]); (try simp only [List.getElem_cons_zero]); (try simp only [Act.put]); (try simp only [List.setIfInBounds_toArray]); (try simp only [List.set_cons_succ]); (try simp only [List.set_cons_zero])
    refine wpAnyH_take (i := 2) (v := .pointer (some ⟨b0, 3, none⟩)) rfl (by kernel_rfl) (by kernel_rfl) (by kernel_rfl) (fun _ _ _ h => h) (Or.inl ⟨by rfl, ?_⟩) hS ?_
    · intro w' hSw
      go_simp
    (try simp only [List.getElem_toArray]); (try simp only [List.getElem_cons_succ]); (try simp only [List.getElem_cons_zero]); (try simp only [Act.put]); (try simp only [List.setIfInBounds_toArray]); (try simp only [List.set_cons_succ]); (try simp only [List.set_cons_zero])
    refine wpAnyH_take (i := 3) (v := .slice (some ⟨gH, 0, none⟩) x.xHeard.length d2) rfl (by kernel_rfl) (by kernel_rfl) (by kernel_rfl) (fun _ _ _ h => h) (Or.inl ⟨by rfl, ?_⟩) hS ?_
    · intro w' hSw
      go_simp
    (try simp only [List.getElem_toArray]); (try simp only [List.getElem_cons_succ]); (try simp only [List.getElem_cons_zero]); (try simp only [Act.put]); (try simp only [List.setIfInBounds_toArray]); (try simp only [List.set_cons_succ]); (try simp only [List.set_cons_zero])
    refine wpAnyH_take (i := 4) (v := .pointer (some ⟨bz, 3, none⟩)) rfl (by kernel_rfl) (by kernel_rfl) (by kernel_rfl) (fun _ _ _ h => h) (Or.inl ⟨by rfl, ?_⟩) hS ?_
    · intro w' hSw
      go_simp
    (try simp only [List.getElem_toArray]); (try simp only [List.getElem_cons_succ]); (try simp only [List.getElem_cons_zero]); (try simp only [Act.put]); (try simp only [List.setIfInBounds_toArray]); (try simp only [List.set_cons_succ]); (try simp only [List.set_cons_zero])
    refine wpAnyH_take (i := 5) (v := .int .i64 l) rfl (by kernel_rfl) (by kernel_rfl) (by kernel_rfl) (fun _ _ _ h => h) (Or.inl ⟨by rfl, ?_⟩) hS ?_
    · intro w' hSw
      go_simp
    (try simp only [List.getElem_toArray]); (try simp only [List.getElem_cons_succ]); (try simp only [List.getElem_cons_zero]); (try simp only [Act.put]); (try simp only [List.setIfInBounds_toArray]); (try simp only [List.set_cons_succ]); (try simp only [List.set_cons_zero])
    refine wpAnyH_take (i := 6) (v := .pointer (some ⟨b0, 0, none⟩)) rfl (by kernel_rfl) (by kernel_rfl) (by kernel_rfl) (fun _ _ _ h => h) (Or.inl ⟨by rfl, ?_⟩) hS ?_
    · intro w' hSw
      go_simp
    (try simp only [List.getElem_toArray]); (try simp only [List.getElem_cons_succ]); (try simp only [List.getElem_cons_zero]); (try simp only [Act.put]); (try simp only [List.setIfInBounds_toArray]); (try simp only [List.set_cons_succ]); (try simp only [List.set_cons_zero])
    refine wpAnyH_take (i := 7) (v := .pointer (some ⟨b0, 0, none⟩)) rfl (by kernel_rfl) (by kernel_rfl) (by kernel_rfl) (fun _ _ _ h => h) (Or.inl ⟨by rfl, ?_⟩) hS ?_
    · intro w' hSw
      go_simp
    (try simp only [List.getElem_toArray]); (try simp only [List.getElem_cons_succ]); (try simp only [List.getElem_cons_zero]); (try simp only [Act.put]); (try simp only [List.setIfInBounds_toArray]); (try simp only [List.set_cons_succ]); (try simp only [List.set_cons_zero])
    refine wpAnyH_take (i := 8) (v := .pointer (some ⟨b0, 3, none⟩)) rfl (by kernel_rfl) (by kernel_rfl) (by kernel_rfl) (fun _ _ _ h => h) (Or.inl ⟨by rfl, ?_⟩) hS ?_
    · intro w' hSw
      go_simp
    (try simp only [List.getElem_toArray]); (try simp only [List.getElem_cons_succ]); (try simp only [List.getElem_cons_zero]); (try simp only [Act.put]); (try simp only [List.setIfInBounds_toArray]); (try simp only [List.set_cons_succ]); (try simp only [List.set_cons_zero])
    refine wpAnyH_take (i := 9) (v := .slice (some ⟨gH, 0, none⟩) x.xHeard.length d2) rfl (by kernel_rfl) (by kernel_rfl) (by kernel_rfl) (fun _ _ _ h => h) (Or.inl ⟨by rfl, ?_⟩) hS ?_
    · intro w' hSw
      go_simp
    (try simp only [List.getElem_toArray]); (try simp only [List.getElem_cons_succ]); (try simp only [List.getElem_cons_zero]); (try simp only [Act.put]); (try simp only [List.setIfInBounds_toArray]); (try simp only [List.set_cons_succ]); (try simp only [List.set_cons_zero])
    refine wpAnyH_take (i := 10) (v := .pointer (some ⟨bz, 3, none⟩)) rfl (by kernel_rfl) (by kernel_rfl) (by kernel_rfl) (fun _ _ _ h => h) (Or.inl ⟨by rfl, ?_⟩) hS ?_
    · intro w' hSw
      go_simp
    (try simp only [List.getElem_toArray]); (try simp only [List.getElem_cons_succ]); (try simp only [List.getElem_cons_zero]); (try simp only [Act.put]); (try simp only [List.setIfInBounds_toArray]); (try simp only [List.set_cons_succ]); (try simp only [List.set_cons_zero])
    refine wpAnyH_take (i := 11) (v := .int .i64 l) rfl (by kernel_rfl) (by kernel_rfl) (by kernel_rfl) (fun _ _ _ h => h) (Or.inl ⟨by rfl, ?_⟩) hS ?_
    · intro w' hSw
      go_simp
    (try simp only [List.getElem_toArray]); (try simp only [List.getElem_cons_succ]); (try simp only [List.getElem_cons_zero]); (try simp only [Act.put]); (try simp only [List.setIfInBounds_toArray]); (try simp only [List.set_cons_succ]); (try simp only [List.set_cons_zero])
    refine wpAnyH_take (i := 12) (v := .pointer (some ⟨gH, l, none⟩)) rfl (by kernel_rfl) (by kernel_rfl) (by kernel_rfl) (fun _ _ _ h => h) (Or.inl ⟨by rfl, ?_⟩) hS ?_
    · intro w' hSw
      go_simp
    (try simp only [List.getElem_toArray]); (try simp only [List.getElem_cons_succ]); (try simp only [List.getElem_cons_zero]); (try simp only [Act.put]); (try simp only [List.setIfInBounds_toArray]); (try simp only [List.set_cons_succ]); (try simp only [List.set_cons_zero])
    refine wpAnyH_take (i := 14) (v := .int .i64 u) rfl (by kernel_rfl) (by kernel_rfl) (by kernel_rfl) (fun _ _ _ h => h) (Or.inl ⟨by rfl, ?_⟩) hS ?_
    · intro w' hSw
      go_simp
    (try simp only [List.getElem_toArray]); (try simp only [List.getElem_cons_succ]); (try simp only [List.getElem_cons_zero]); (try simp only [Act.put]); (try simp only [List.setIfInBounds_toArray]); (try simp only [List.set_cons_succ]); (try simp only [List.set_cons_zero])
    refine wpAnyH_take (i := 15) (v := .int .i64 v) rfl (by kernel_rfl) (by kernel_rfl) (by kernel_rfl) (fun _ _ _ h => h) (Or.inl ⟨by rfl, ?_⟩) hS ?_
    · intro w' hSw
      go_simp
    (try simp only [List.getElem_toArray]); (try simp only [List.getElem_cons_succ]); (try simp only [List.getElem_cons_zero]); (try simp only [Act.put]); (try simp only [List.setIfInBounds_toArray]); (try simp only [List.set_cons_succ]); (try simp only [List.set_cons_zero])
    refine wpAnyH_ready (rs := [13, 16]) (by kernel_rfl) (by simp) ?_
    refine AllReadyH.cons (o := _) rfl (fun K hK => ?_) (AllReadyH.cons (o := _) rfl (fun K hK => ?_) AllReadyH.nil)
    · rw [if_pos (by rfl)]
      go_simp
      refine hK.out _ _ hS (fun hS => ?_)
      clear hK K
      (try simp only [List.getElem_toArray]); (try simp only [List.getElem_cons_succ]); (try simp only [List.getElem_cons_zero]); (try simp only [Act.put]); (try simp only [List.setIfInBounds_toArray]); (try simp only [List.set_cons_succ]); (try simp only [List.set_cons_zero])
      refine wpAnyH_ready (rs := [16]) (by kernel_rfl) (by simp) ?_
      refine AllReadyH.cons (o := _) rfl (fun K hK => ?_) AllReadyH.nil
      rw [if_pos (by rfl)]
      go_simp
      refine hK.out _ _ ⟨(Zd.alloc (.cells #[.int .i64 u, .int .i64 v] 2)).at.1, (Xd.alloc (.cells #[.int .i64 u, .int .i64 v] 2)).at.1⟩ (fun hS => ?_)
      clear hK K
      (try simp only [List.getElem_toArray]); (try simp only [List.getElem_cons_succ]); (try simp only [List.getElem_cons_zero]); (try simp only [Act.put]); (try simp only [List.setIfInBounds_toArray]); (try simp only [List.set_cons_succ]); (try simp only [List.set_cons_zero])
      refine wpAnyH_ready (rs := [17]) (by kernel_rfl) (by simp) ?_
      refine AllReadyH.cons (o := _) rfl (fun K hK => ?_) AllReadyH.nil
      refine step_append_Own rfl (.tmp 42) (.tmp 45) 25 rfl 2 i1 (.int .i64 0) 1 8 Tryz.underlying25 gi gz0 gz1 gz2 rfl (by decide) (.slice pr row.length cr) row.length (row.map (Value.int .i64)) bt rfl (Own.alloc Itd _) ⟨w6.heap.size, 0, none⟩ 2 2 [.int .i64 u, .int .i64 v] rfl rfl (World.news_of_block (Blk.new w6.drew 2 #[.int .i64 u, .int .i64 v])) (by intro y hy; simp at hy; rcases hy with rfl | rfl <;> rfl) (by omega) (by unfold maxLen; omega) (by omega) ?_
      intro g cap w7 hO7 hF7 hg7
      have Z7 := (Zd.alloc (.cells #[.int .i64 u, .int .i64 v] 2)).off hF7 nzt
      have X7 := (Xd.alloc (.cells #[.int .i64 u, .int .i64 v] 2)).off hF7 nxt
      have ltH2 : gH < (w6.drew.alloc (.cells #[.int .i64 u, .int .i64 v] 2)).heap.size := by simp; exact Nat.lt_succ_of_lt ltH
      have c7 : w7.cell? ⟨gH, l, none⟩ = some (.slice pr row.length cr) := ((hF7.at gH ltH2 nHt).1 l).trans ((((Below.refl w6.drew.heap.size w6.drew).alloc (Nat.le_refl _) (.cells #[.int .i64 u, .int .i64 v] 2)).cell (p := ⟨gH, l, none⟩) ltH).trans ctd)
      have f7 : w7.frozen? ⟨gH, l, none⟩ = false := ((hF7.at gH ltH2 nHt).2 l).trans ((((Below.refl w6.drew.heap.size w6.drew).alloc (Nat.le_refl _) (.cells #[.int .i64 u, .int .i64 v] 2)).frozen (p := ⟨gH, l, none⟩) ltH).trans ft)
      refine hK.out _ _ ⟨Z7.at.1, X7.at.1⟩ (fun hS => ?_)
      clear hK K
      (try simp only [List.getElem_toArray]); (try simp only [List.getElem_cons_succ]); (try simp only [List.getElem_cons_zero]); (try simp only [Act.put]); (try simp only [List.setIfInBounds_toArray]); (try simp only [List.set_cons_succ]); (try simp only [List.set_cons_zero])
      refine wpAnyH_take (i := 18) (v := .pointer (some ⟨gH, l, none⟩)) rfl (by kernel_rfl) (by kernel_rfl) (by kernel_rfl) (fun _ _ _ h => h) (Or.inl ⟨by rfl, ?_⟩) hS ?_
      · intro w' hSw
        go_simp
      (try simp only [List.getElem_toArray]); (try simp only [List.getElem_cons_succ]); (try simp only [List.getElem_cons_zero]); (try simp only [Act.put]); (try simp only [List.setIfInBounds_toArray]); (try simp only [List.set_cons_succ]); (try simp only [List.set_cons_zero])
      refine wpAnyH_ready (rs := [19]) (by kernel_rfl) (by simp) ?_
      refine AllReadyH.cons (o := _) rfl (fun K hK => ?_) AllReadyH.nil
      rw [if_pos (by rfl)]
      go_simp
      have oF : Off bt w6 w7 := (((Off.refl bt w6).drew).alloc (.cells #[.int .i64 u, .int .i64 v] 2)).trans hF7
      have Z8 := Z7.setOther ⟨gH, l, none⟩ (.slice (some ⟨g, 0, none⟩) (row.length + 2) cap) (by simp; omega)
      have X8 := X7.setOther ⟨gH, l, none⟩ (.slice (some ⟨g, 0, none⟩) (row.length + 2) cap) (by simp; omega)
      refine hK.out _ _ ⟨Z8.at.1, X8.at.1⟩ (fun hS => ?_)
      clear hK K
      refine wpAnyH_done (by kernel_rfl) ?_ _
      obtain ⟨cs, M8, hcs⟩ := AFTERH.out w7 (.slice (some ⟨g, 0, none⟩) (row.length + 2) cap) (row ++ [u, v]) g oF (by unfold IntsT; simpa using hO7) (hg7.imp id (fun h => by (try simp at h); omega))
      have hcs2 : ∀ y ∈ cs, y ∈ b2 ∨ w6.heap.size ≤ y := fun y hy => (hcs y hy).elim .inl (fun e => by rw [e]; exact hg7.elim (fun h => .inl (bin g (by rw [h]; simp))) (fun h => .inr (by (try simp at h); omega)))
      have oG : Off b2 w6 (w7.setCell ⟨gH, l, none⟩ (.slice (some ⟨g, 0, none⟩) (row.length + 2) cap)) := (oF.mono bin).setCell _ _ (.inl gin)
      subst hrw
      go_wp2
      go_meet
      case rel => exact ⟨rfl, rfl, rfl, cs, Z8, M8, hcs2, oG⟩
    · rw [if_pos (by rfl)]
      go_simp
      refine hK.out _ _ ⟨(Zd.alloc (.cells #[.int .i64 u, .int .i64 v] 2)).at.1, (Xd.alloc (.cells #[.int .i64 u, .int .i64 v] 2)).at.1⟩ (fun hS => ?_)
      clear hK K
      (try simp only [List.getElem_toArray]); (try simp only [List.getElem_cons_succ]); (try simp only [List.getElem_cons_zero]); (try simp only [Act.put]); (try simp only [List.setIfInBounds_toArray]); (try simp only [List.set_cons_succ]); (try simp only [List.set_cons_zero])
      have cta : (w6.drew.alloc (.cells #[.int .i64 u, .int .i64 v] 2)).cell? ⟨gH, l, none⟩ = some (.slice pr row.length cr) := (((Below.refl w6.drew.heap.size w6.drew).alloc (Nat.le_refl _) (.cells #[.int .i64 u, .int .i64 v] 2)).cell (p := ⟨gH, l, none⟩) ltH).trans ctd
      refine wpAnyH_ready (rs := [13]) (by kernel_rfl) (by simp) ?_
      refine AllReadyH.cons (o := _) rfl (fun K hK => ?_) AllReadyH.nil
      rw [if_pos (by rfl)]
      go_simp
      refine hK.out _ _ hS (fun hS => ?_)
      clear hK K
      (try simp only [List.getElem_toArray]); (try simp only [List.getElem_cons_succ]); (try simp only [List.getElem_cons_zero]); (try simp only [Act.put]); (try simp only [List.setIfInBounds_toArray]); (try simp only [List.set_cons_succ]); (try simp only [List.set_cons_zero])
      refine wpAnyH_ready (rs := [17]) (by kernel_rfl) (by simp) ?_
      refine AllReadyH.cons (o := _) rfl (fun K hK => ?_) AllReadyH.nil
      refine step_append_Own rfl (.tmp 42) (.tmp 45) 25 rfl 2 i1 (.int .i64 0) 1 8 Tryz.underlying25 gi gz0 gz1 gz2 rfl (by decide) (.slice pr row.length cr) row.length (row.map (Value.int .i64)) bt rfl (Own.alloc Itd _) ⟨w6.heap.size, 0, none⟩ 2 2 [.int .i64 u, .int .i64 v] rfl rfl (World.news_of_block (Blk.new w6.drew 2 #[.int .i64 u, .int .i64 v])) (by intro y hy; simp at hy; rcases hy with rfl | rfl <;> rfl) (by omega) (by unfold maxLen; omega) (by omega) ?_
      intro g cap w7 hO7 hF7 hg7
      have Z7 := (Zd.alloc (.cells #[.int .i64 u, .int .i64 v] 2)).off hF7 nzt
      have X7 := (Xd.alloc (.cells #[.int .i64 u, .int .i64 v] 2)).off hF7 nxt
      have ltH2 : gH < (w6.drew.alloc (.cells #[.int .i64 u, .int .i64 v] 2)).heap.size := by simp; exact Nat.lt_succ_of_lt ltH
      have c7 : w7.cell? ⟨gH, l, none⟩ = some (.slice pr row.length cr) := ((hF7.at gH ltH2 nHt).1 l).trans ((((Below.refl w6.drew.heap.size w6.drew).alloc (Nat.le_refl _) (.cells #[.int .i64 u, .int .i64 v] 2)).cell (p := ⟨gH, l, none⟩) ltH).trans ctd)
      have f7 : w7.frozen? ⟨gH, l, none⟩ = false := ((hF7.at gH ltH2 nHt).2 l).trans ((((Below.refl w6.drew.heap.size w6.drew).alloc (Nat.le_refl _) (.cells #[.int .i64 u, .int .i64 v] 2)).frozen (p := ⟨gH, l, none⟩) ltH).trans ft)
      refine hK.out _ _ ⟨Z7.at.1, X7.at.1⟩ (fun hS => ?_)
      clear hK K
      (try simp only [List.getElem_toArray]); (try simp only [List.getElem_cons_succ]); (try simp only [List.getElem_cons_zero]); (try simp only [Act.put]); (try simp only [List.setIfInBounds_toArray]); (try simp only [List.set_cons_succ]); (try simp only [List.set_cons_zero])
      refine wpAnyH_take (i := 18) (v := .pointer (some ⟨gH, l, none⟩)) rfl (by kernel_rfl) (by kernel_rfl) (by kernel_rfl) (fun _ _ _ h => h) (Or.inl ⟨by rfl, ?_⟩) hS ?_
      · intro w' hSw
        go_simp
      (try simp only [List.getElem_toArray]); (try simp only [List.getElem_cons_succ]); (try simp only [List.getElem_cons_zero]); (try simp only [Act.put]); (try simp only [List.setIfInBounds_toArray]); (try simp only [List.set_cons_succ]); (try simp only [List.set_cons_zero])
      refine wpAnyH_ready (rs := [19]) (by kernel_rfl) (by simp) ?_
      refine AllReadyH.cons (o := _) rfl (fun K hK => ?_) AllReadyH.nil
      rw [if_pos (by rfl)]
      go_simp
      have oF : Off bt w6 w7 := (((Off.refl bt w6).drew).alloc (.cells #[.int .i64 u, .int .i64 v] 2)).trans hF7
      have Z8 := Z7.setOther ⟨gH, l, none⟩ (.slice (some ⟨g, 0, none⟩) (row.length + 2) cap) (by simp; omega)
      have X8 := X7.setOther ⟨gH, l, none⟩ (.slice (some ⟨g, 0, none⟩) (row.length + 2) cap) (by simp; omega)
      refine hK.out _ _ ⟨Z8.at.1, X8.at.1⟩ (fun hS => ?_)
      clear hK K
      refine wpAnyH_done (by kernel_rfl) ?_ _
      obtain ⟨cs, M8, hcs⟩ := AFTERH.out w7 (.slice (some ⟨g, 0, none⟩) (row.length + 2) cap) (row ++ [u, v]) g oF (by unfold IntsT; simpa using hO7) (hg7.imp id (fun h => by (try simp at h); omega))
      have hcs2 : ∀ y ∈ cs, y ∈ b2 ∨ w6.heap.size ≤ y := fun y hy => (hcs y hy).elim .inl (fun e => by rw [e]; exact hg7.elim (fun h => .inl (bin g (by rw [h]; simp))) (fun h => .inr (by (try simp at h); omega)))
      have oG : Off b2 w6 (w7.setCell ⟨gH, l, none⟩ (.slice (some ⟨g, 0, none⟩) (row.length + 2) cap)) := (oF.mono bin).setCell _ _ (.inl gin)
      subst hrw
      go_wp2
      go_meet
      case rel => exact ⟨rfl, rfl, rfl, cs, Z8, M8, hcs2, oG⟩
  case rest =>
    obtain ⟨rfl, rfl, rfl, cs, Z7, M7, hcs, O7⟩ := hcut
    have X7 := X6.off O7 nxb
    have OB := OA.trans (O7.mono (fun y hy => by simp [hy]))
    have hcs2 : ∀ y ∈ cs, y ∈ b2 ∨ w.heap.size ≤ y := fun y hy => (hcs y hy).imp id (fun h => Nat.le_trans OA.size h)
    have nzc : b0 ∉ cs := fun h => (hcs2 _ h).elim nb (fun h => by have := HBZ.out; omega)
    have nxc : bz ∉ cs := fun h => (hcs _ h).elim nxb (fun h => by have := X6.lt; omega)
    clear hcs O7 OA Z6 H6 X6
    obtain ⟨w7, ew7⟩ : ∃ x : World, x = wc := ⟨_, rfl⟩
    subst ew7
    go_wp2_with fail
    go_cut [10] from 48 (fun s wr => s = .bool (cryB x.xCheat l x.xSent) ∧ Blk wr b0 41 #[.slice q0 x.xTape.length d0, .slice q1 x.xUsed.length d1, .int .i64 (x.xSent + 2), .slice (some ⟨gH, 0, none⟩) x.xHeard.length d2, .int .i64 x.xCheat.xWho, .int .i64 x.xCheat.xAt, .int .i64 x.xCheat.xBy, .bool x.xCheat.xCry, .bool x.xQuarrel.xSome, .int .i64 x.xQuarrel.xFrom, .int .i64 x.xQuarrel.xCheck, .int .i64 x.xQuarrel.xTo, .int .i64 x.xQuarrel.xTold, .int .i64 x.xQuarrel.xHeard, .int .i64 x.xQuarrel.xOther, .int .i64 x.xQuarrel.xVowed] ∧ Blk wr bz 39 #[.bool false, .int .i64 fm, .int .i64 ck, .int .i64 l, .int .i64 a, .int .i64 0, .int .i64 0, .int .i64 b] ∧ MatT wr (.slice (some ⟨gH, 0, none⟩) x.xHeard.length d2) (x.xHeard.set l (x.xHeard.getD l [] ++ [u, v])) cs ∧ Off (b0 :: b2) w wr)
    case first =>
      have FF : Hid (∀ n, Blk (w7.drewN n) b0 41 #[.slice q0 x.xTape.length d0, .slice q1 x.xUsed.length d1, .int .i64 (x.xSent + 2), .slice (some ⟨gH, 0, none⟩) x.xHeard.length d2, .int .i64 x.xCheat.xWho, .int .i64 x.xCheat.xAt, .int .i64 x.xCheat.xBy, .bool x.xCheat.xCry, .bool x.xQuarrel.xSome, .int .i64 x.xQuarrel.xFrom, .int .i64 x.xQuarrel.xCheck, .int .i64 x.xQuarrel.xTo, .int .i64 x.xQuarrel.xTold, .int .i64 x.xQuarrel.xHeard, .int .i64 x.xQuarrel.xOther, .int .i64 x.xQuarrel.xVowed] ∧ Blk (w7.drewN n) bz 39 #[.bool false, .int .i64 fm, .int .i64 ck, .int .i64 l, .int .i64 a, .int .i64 0, .int .i64 0, .int .i64 b] ∧ MatT (w7.drewN n) (.slice (some ⟨gH, 0, none⟩) x.xHeard.length d2) (x.xHeard.set l (x.xHeard.getD l [] ++ [u, v])) cs ∧ Off (b0 :: b2) w (w7.drewN n)) := fun n => ⟨Z7.drewN n, X7.drewN n, M7.keep (below_drewN (Below.refl _ _) n), OB.trans (Off.ofBelow (below_drewN (Below.refl _ _) n))⟩
      have za := Z7.at.1
      have zl := Z7.lt
      have xa := X7.at.1
      have xl := X7.lt
      clear Z7 X7 M7 OB
      by_cases h1 : x.xCheat.xWho = (l : Int)
      · have e1 : (x.xCheat.xWho == (l : Int)) = true := by simpa using h1
        have e1' : ((l : Int) == x.xCheat.xWho) = true := by simpa using h1.symm
        have HE1 : Hid (((l : Int) == x.xCheat.xWho) = true) := e1'
        clear e1' h1
        cases hc : x.xCheat.xCry
        · have HC : Hid (x.xCheat.xCry = false) := hc
          rw [hc] at za
          clear hc
          go_quiet (fail)
          go_wp2
          go_meet
          case rel => exact ⟨by rw [show cryB x.xCheat l x.xSent = false from by unfold cryB; rw [HC.out]; rfl], FF.out _⟩
        · have HC : Hid (x.xCheat.xCry = true) := hc
          rw [hc] at za
          clear hc
          by_cases h2 : x.xCheat.xAt ≤ x.xSent
          · have e2 : decide (x.xCheat.xAt ≤ x.xSent) = true := by simpa using h2
            have HE2 : Hid (decide (x.xCheat.xAt ≤ x.xSent) = true) := e2
            go_quiet (fail)
            go_wp2
            go_meet
            case rel => exact ⟨by rw [show cryB x.xCheat l x.xSent = true from by unfold cryB; rw [HC.out, HE1.out, HE2.out]; rfl], FF.out _⟩
          · have e2 : decide (x.xCheat.xAt ≤ x.xSent) = false := by simpa using h2
            have HE2 : Hid (decide (x.xCheat.xAt ≤ x.xSent) = false) := e2
            clear h2
            go_quiet (fail)
            go_wp2
            go_meet
            case rel => exact ⟨by rw [show cryB x.xCheat l x.xSent = false from by unfold cryB; rw [HC.out, HE1.out, HE2.out]; rfl], FF.out _⟩
      · have e1 : (x.xCheat.xWho == (l : Int)) = false := by simpa using h1
        have HE1 : Hid (((l : Int) == x.xCheat.xWho) = false) := by show _ = _; simpa using fun h => h1 h.symm
        clear h1
        go_quiet (fail)
        go_wp2
        go_meet
        case rel => exact ⟨by rw [show cryB x.xCheat l x.xSent = false from by unfold cryB; rw [HE1.out]; simp], FF.out _⟩
    case rest =>
      clear Z7 X7 M7 OB
      obtain ⟨rfl, Z8, X8, M8, OB⟩ := hcut
      obtain ⟨w8, ew8⟩ : ∃ x : World, x = wc := ⟨_, rfl⟩
      subst ew8
      by_cases hok : u = v ∧ cryB x.xCheat l x.xSent = false
      · have HE := HN.out hok
        obtain ⟨h1, h2⟩ := hok
        have e1 : (u == v) = true := by simpa using h1
        rw [h2]
        clear h1 h2
        go_wp2
        go_ret
        exact ⟨by rw [HU.out]; rfl, cs, by rw [HE]; exact Z8, by rw [HU.out, HV.out]; exact M8, hcs2, OB⟩
      · have HE := HQ.out hok
        have HK : Hid (∀ K : Prop, (((u == v) = false) → K) → ((u == v) = true → cryB x.xCheat l x.xSent = true → K) → K) := fun K k1 k2 => by
          by_cases h : u = v
          · exact k2 (by simpa using h) (by cases hc : cryB x.xCheat l x.xSent with | false => exact absurd ⟨h, hc⟩ hok | true => rfl)
          · exact k1 (by simpa using h)
        clear hok HN HQ
        go_upto_region 6 with fail
        go_cut [10, 78] from 72 (fun c s wr => c = .bool (cryB x.xCheat l x.xSent) ∧ s = .bool false ∧ wr = w8)
        case first =>
          refine HK.out _ (fun e1 => ?_) (fun e1 e2 => ?_)
          · go_wp2
            go_meet
            case rel => exact ⟨rfl, rfl, rfl⟩
          · have EH : Hid (cryB x.xCheat l x.xSent = true) := e2
            rw [e2]
            clear e2
            go_wp2
            go_meet
            case rel => exact ⟨by rw [EH.out], rfl, rfl⟩
        case rest =>
          obtain ⟨rfl, rfl, rfl⟩ := hcut
          clear HK
          have za := Z8.at.1
          have zl := Z8.lt
          have xa := X8.at.1
          have xb := X8.at.2
          have xl := X8.lt
          have hq1 : 1 ≤ q := by omega
          have hq2 : q ≤ 256 := by omega
          have OX : Off [bz] wc (((wc.setCell ⟨bz, 0, none⟩ (.bool true)).setCell ⟨bz, 5, none⟩ (.int .i64 u)).setCell ⟨bz, 6, none⟩ (.int .i64 v)) := (((Off.refl _ _).setCell _ _ (by simp)).setCell _ _ (by simp)).setCell _ _ (by simp)
          have X9 : Blk (((wc.setCell ⟨bz, 0, none⟩ (.bool true)).setCell ⟨bz, 5, none⟩ (.int .i64 u)).setCell ⟨bz, 6, none⟩ (.int .i64 v)) bz 39 #[.bool true, .int .i64 fm, .int .i64 ck, .int .i64 l, .int .i64 a, .int .i64 u, .int .i64 v, .int .i64 b] := Blk.of_eq (((X8.set 0 _).set 5 _).set 6 _) (by simp)
          have Z9 := Z8.off OX (by simp; omega)
          have M9 := M8.off OX (fun y hy hm => by simp at hm; exact nxc (by rw [← hm]; exact hy))
          have OC : Off (b0 :: b2) w (((wc.setCell ⟨bz, 0, none⟩ (.bool true)).setCell ⟨bz, 5, none⟩ (.int .i64 u)).setCell ⟨bz, 6, none⟩ (.int .i64 v)) := OB.later OX (by have := HBZ.out; simp; omega)
          clear Z8 X8 M8 OB OX
          go_wp2_with fail
          clear za zl xa xb xl
          generalize ((wc.setCell ⟨bz, 0, none⟩ (.bool true)).setCell ⟨bz, 5, none⟩ (.int .i64 u)).setCell ⟨bz, 6, none⟩ (.int .i64 v) = w9 at *
          go_cut [92] from 85 (fun s wr => s = .bool (x.xCheat.xWho == (l : Int)) ∧ Blk wr b0 41 #[.slice q0 x.xTape.length d0, .slice q1 x.xUsed.length d1, .int .i64 (x.xSent + 2), .slice (some ⟨gH, 0, none⟩) x.xHeard.length d2, .int .i64 x.xCheat.xWho, .int .i64 x.xCheat.xAt, .int .i64 x.xCheat.xBy, .bool x.xCheat.xCry, .bool x.xQuarrel.xSome, .int .i64 x.xQuarrel.xFrom, .int .i64 x.xQuarrel.xCheck, .int .i64 x.xQuarrel.xTo, .int .i64 x.xQuarrel.xTold, .int .i64 x.xQuarrel.xHeard, .int .i64 x.xQuarrel.xOther, .int .i64 x.xQuarrel.xVowed] ∧ Blk wr bz 39 #[.bool true, .int .i64 fm, .int .i64 ck, .int .i64 l, .int .i64 a, .int .i64 u, .int .i64 v, .int .i64 b] ∧ MatT wr (.slice (some ⟨gH, 0, none⟩) x.xHeard.length d2) (x.xHeard.set l (x.xHeard.getD l [] ++ [u, v])) cs ∧ Off (b0 :: b2) w wr)
          case first =>
            have za := Z9.at.1
            have zl := Z9.lt
            have xa := X9.at.1
            have xb := X9.at.2
            have xl := X9.lt
            go_quiet (fail)
            go_wp2
            go_meet
            case rel => exact ⟨rfl, Z9.drewN _, X9.drewN _, M9.keep (below_drewN (Below.refl _ _) _), OC.trans (Off.ofBelow (below_drewN (Below.refl _ _) _))⟩
          case rest =>
            clear Z9 X9 M9 OC
            obtain ⟨rfl, Z9, X9, M9, OC⟩ := hcut
            obtain ⟨wq, ewq⟩ : ∃ x : World, x = wc := ⟨_, rfl⟩
            subst ewq
            have QQ : Hid (∀ V hh, Blk V b0 41 #[.slice q0 x.xTape.length d0, .slice q1 x.xUsed.length d1, .int .i64 (x.xSent + 2), .slice (some ⟨gH, 0, none⟩) x.xHeard.length d2, .int .i64 x.xCheat.xWho, .int .i64 x.xCheat.xAt, .int .i64 x.xCheat.xBy, .bool x.xCheat.xCry, .bool x.xQuarrel.xSome, .int .i64 x.xQuarrel.xFrom, .int .i64 x.xQuarrel.xCheck, .int .i64 x.xQuarrel.xTo, .int .i64 x.xQuarrel.xTold, .int .i64 x.xQuarrel.xHeard, .int .i64 x.xQuarrel.xOther, .int .i64 x.xQuarrel.xVowed] → Blk V bz 39 #[.bool true, .int .i64 fm, .int .i64 ck, .int .i64 l, .int .i64 a, .int .i64 hh, .int .i64 v, .int .i64 b] → MatT V (.slice (some ⟨gH, 0, none⟩) x.xHeard.length d2) (x.xHeard.set l (x.xHeard.getD l [] ++ [u, v])) cs → Off (b0 :: b2) w V → True) := fun _ _ _ _ _ _ => trivial
            by_cases h1 : x.xCheat.xWho = (l : Int)
            · have e3 : (x.xCheat.xWho == (l : Int)) = true := by simpa using h1
              have HH : Hid ((if x.xCheat.xWho = (l : Int) then (u + x.xCheat.xBy) % q else u) = (u + x.xCheat.xBy) % q) := if_pos h1
              rw [e3]
              clear h1 e3
              have za := Z9.at.1
              have zl := Z9.lt
              have xa := X9.at.1
              have xb := X9.at.2
              have xl := X9.lt
              go_wp2_with fail
              refine (spec_l1Mod q (u + x.xCheat.xBy) _ hq1 hq2).mono ?_
              rintro e w' ⟨rfl, rfl⟩
              generalize hge : (u + x.xCheat.xBy) % q = hh
              replace HH : Hid ((if x.xCheat.xWho = (l : Int) then (u + x.xCheat.xBy) % q else u) = hh) := by show _ = _; rw [HH.out, hge]
              clear hge
              have P0 : Off [bz] wq (wq.setCell ⟨bz, 5, none⟩ (.int .i64 hh)) := (Off.refl _ _).setCell _ _ (by simp)
              replace X9 : Blk (wq.setCell ⟨bz, 5, none⟩ (.int .i64 hh)) bz 39 #[.bool true, .int .i64 fm, .int .i64 ck, .int .i64 l, .int .i64 a, .int .i64 hh, .int .i64 v, .int .i64 b] := Blk.of_eq (X9.set 5 _) (by simp)
              replace Z9 := Z9.off P0 (by simp; omega)
              replace M9 := M9.off P0 (fun y hy hm => by simp at hm; exact nxc (by rw [← hm]; exact hy))
              replace OC := OC.later P0 (by have := HBZ.out; simp; omega)
              clear P0
              go_wp2_with fail
              clear za zl xa xb xl
              generalize wq.setCell ⟨bz, 5, none⟩ (.int .i64 hh) = wp at *
              have K1 := fun V k0 k3 => spec_l4Stands b0 x.xCheat fm a u V k0 k3
              have K2 := fun V k0 k3 => spec_l4Stands b0 x.xCheat ck b v V k0 k3
              have HT1 : Hid (standV x.xCheat fm a u = standV x.xCheat fm a u) := rfl
              generalize ht1 : standV x.xCheat fm a u = t1 at *
              generalize ht2 : standV x.xCheat ck b v = t2 at *
              have G1 : Hid (standV x.xCheat fm a u = t1) := ht1
              have G2 : Hid (standV x.xCheat ck b v = t2) := ht2
              clear ht1 ht2 HT1
              have za := Z9.at.1
              have zl := Z9.lt
              have xa := X9.at.1
              have xb := X9.at.2
              have xl := X9.lt
              go_wp2_with fail
              refine (K1 _ (by rw [Z9.at.1]; rfl) (by rw [Z9.at.1]; rfl)).mono ?_
              rintro e w' ⟨rfl, rfl⟩
              have P1 : Off [bz] wp (wp.setCell ⟨bz, 4, none⟩ (.int .i64 t1)) := (Off.refl _ _).setCell _ _ (by simp)
              have X10 : Blk (wp.setCell ⟨bz, 4, none⟩ (.int .i64 t1)) bz 39 #[.bool true, .int .i64 fm, .int .i64 ck, .int .i64 l, .int .i64 t1, .int .i64 hh, .int .i64 v, .int .i64 b] := Blk.of_eq (X9.set 4 _) (by simp)
              have Z10 := Z9.off P1 (by simp; omega)
              have M10 := M9.off P1 (fun y hy hm => by simp at hm; exact nxc (by rw [← hm]; exact hy))
              have OD := OC.later P1 (by have := HBZ.out; simp; omega)
              clear Z9 X9 M9 OC P1
              go_wp2_with fail
              clear za zl xa xb xl
              generalize wp.setCell ⟨bz, 4, none⟩ (.int .i64 t1) = wr at *
              have xa := X10.at.1
              have xb := X10.at.2
              have xl := X10.lt
              go_wp2_with fail
              refine (K2 _ (by rw [Z10.at.1]; rfl) (by rw [Z10.at.1]; rfl)).mono ?_
              rintro e w' ⟨rfl, rfl⟩
              have P2 : Off [bz] wr (wr.setCell ⟨bz, 7, none⟩ (.int .i64 t2)) := (Off.refl _ _).setCell _ _ (by simp)
              have X11 : Blk (wr.setCell ⟨bz, 7, none⟩ (.int .i64 t2)) bz 39 #[.bool true, .int .i64 fm, .int .i64 ck, .int .i64 l, .int .i64 t1, .int .i64 hh, .int .i64 v, .int .i64 t2] := Blk.of_eq (X10.set 7 _) (by simp)
              have Z11 := Z10.off P2 (by simp; omega)
              have M11 := M10.off P2 (fun y hy hm => by simp at hm; exact nxc (by rw [← hm]; exact hy))
              have OE := OD.later P2 (by have := HBZ.out; simp; omega)
              clear Z10 X10 M10 OD P2
              have xa2 := X11.at.1
              have xl2 := X11.lt
              go_wp2_with (refine wpList_store_tail rfl 39 _ _ rfl b0 8 (#[.bool true, .int .i64 fm, .int .i64 ck, .int .i64 l, .int .i64 t1, .int .i64 hh, .int .i64 v, .int .i64 t2]) rfl rfl Z11 rfl (by kernel_rfl) (by kernel_rfl) ?_; intro w12 Z12 O12)
              have Z13 : Blk w12 b0 41 #[.slice q0 x.xTape.length d0, .slice q1 x.xUsed.length d1, .int .i64 (x.xSent + 2), .slice (some ⟨gH, 0, none⟩) x.xHeard.length d2, .int .i64 x.xCheat.xWho, .int .i64 x.xCheat.xAt, .int .i64 x.xCheat.xBy, .bool x.xCheat.xCry, .bool (claimZ x.xCheat q ⟨true, fm, ck, l, a, u, v, b⟩).xSome, .int .i64 (claimZ x.xCheat q ⟨true, fm, ck, l, a, u, v, b⟩).xFrom, .int .i64 (claimZ x.xCheat q ⟨true, fm, ck, l, a, u, v, b⟩).xCheck, .int .i64 (claimZ x.xCheat q ⟨true, fm, ck, l, a, u, v, b⟩).xTo, .int .i64 (claimZ x.xCheat q ⟨true, fm, ck, l, a, u, v, b⟩).xTold, .int .i64 (claimZ x.xCheat q ⟨true, fm, ck, l, a, u, v, b⟩).xHeard, .int .i64 (claimZ x.xCheat q ⟨true, fm, ck, l, a, u, v, b⟩).xOther, .int .i64 (claimZ x.xCheat q ⟨true, fm, ck, l, a, u, v, b⟩).xVowed] := by
                show Blk w12 b0 41 #[.slice q0 x.xTape.length d0, .slice q1 x.xUsed.length d1, .int .i64 (x.xSent + 2), .slice (some ⟨gH, 0, none⟩) x.xHeard.length d2, .int .i64 x.xCheat.xWho, .int .i64 x.xCheat.xAt, .int .i64 x.xCheat.xBy, .bool x.xCheat.xCry, .bool true, .int .i64 fm, .int .i64 ck, .int .i64 l, .int .i64 (standV x.xCheat fm a u), .int .i64 (if x.xCheat.xWho = (l : Int) then (u + x.xCheat.xBy) % q else u), .int .i64 v, .int .i64 (standV x.xCheat ck b v)]
                rw [G1.out, G2.out, HH.out]
                exact Z12
              have M13 := M11.off O12 (fun y hy hm => by simp at hm; exact nzc (by rw [← hm]; exact hy))
              have OF := OE.trans (O12.mono (by simp))
              go_ret
              exact ⟨by rw [HU.out]; rfl, cs, by rw [HE]; exact Z13, by rw [HU.out, HV.out]; exact M13, hcs2, OF⟩
            · have e3 : (x.xCheat.xWho == (l : Int)) = false := by simpa using h1
              have HH : Hid ((if x.xCheat.xWho = (l : Int) then (u + x.xCheat.xBy) % q else u) = u) := if_neg h1
              rw [e3]
              clear h1 e3
              have K1 := fun V k0 k3 => spec_l4Stands b0 x.xCheat fm a u V k0 k3
              have K2 := fun V k0 k3 => spec_l4Stands b0 x.xCheat ck b v V k0 k3
              have HT1 : Hid (standV x.xCheat fm a u = standV x.xCheat fm a u) := rfl
              generalize ht1 : standV x.xCheat fm a u = t1 at *
              generalize ht2 : standV x.xCheat ck b v = t2 at *
              have G1 : Hid (standV x.xCheat fm a u = t1) := ht1
              have G2 : Hid (standV x.xCheat ck b v = t2) := ht2
              clear ht1 ht2 HT1
              have za := Z9.at.1
              have zl := Z9.lt
              have xa := X9.at.1
              have xb := X9.at.2
              have xl := X9.lt
              go_wp2_with fail
              refine (K1 _ (by rw [Z9.at.1]; rfl) (by rw [Z9.at.1]; rfl)).mono ?_
              rintro e w' ⟨rfl, rfl⟩
              have P1 : Off [bz] wq (wq.setCell ⟨bz, 4, none⟩ (.int .i64 t1)) := (Off.refl _ _).setCell _ _ (by simp)
              have X10 : Blk (wq.setCell ⟨bz, 4, none⟩ (.int .i64 t1)) bz 39 #[.bool true, .int .i64 fm, .int .i64 ck, .int .i64 l, .int .i64 t1, .int .i64 u, .int .i64 v, .int .i64 b] := Blk.of_eq (X9.set 4 _) (by simp)
              have Z10 := Z9.off P1 (by simp; omega)
              have M10 := M9.off P1 (fun y hy hm => by simp at hm; exact nxc (by rw [← hm]; exact hy))
              have OD := OC.later P1 (by have := HBZ.out; simp; omega)
              clear Z9 X9 M9 OC P1
              go_wp2_with fail
              clear za zl xa xb xl
              generalize wq.setCell ⟨bz, 4, none⟩ (.int .i64 t1) = wr at *
              have xa := X10.at.1
              have xb := X10.at.2
              have xl := X10.lt
              go_wp2_with fail
              refine (K2 _ (by rw [Z10.at.1]; rfl) (by rw [Z10.at.1]; rfl)).mono ?_
              rintro e w' ⟨rfl, rfl⟩
              have P2 : Off [bz] wr (wr.setCell ⟨bz, 7, none⟩ (.int .i64 t2)) := (Off.refl _ _).setCell _ _ (by simp)
              have X11 : Blk (wr.setCell ⟨bz, 7, none⟩ (.int .i64 t2)) bz 39 #[.bool true, .int .i64 fm, .int .i64 ck, .int .i64 l, .int .i64 t1, .int .i64 u, .int .i64 v, .int .i64 t2] := Blk.of_eq (X10.set 7 _) (by simp)
              have Z11 := Z10.off P2 (by simp; omega)
              have M11 := M10.off P2 (fun y hy hm => by simp at hm; exact nxc (by rw [← hm]; exact hy))
              have OE := OD.later P2 (by have := HBZ.out; simp; omega)
              clear Z10 X10 M10 OD P2
              have xa2 := X11.at.1
              have xl2 := X11.lt
              go_wp2_with (refine wpList_store_tail rfl 39 _ _ rfl b0 8 (#[.bool true, .int .i64 fm, .int .i64 ck, .int .i64 l, .int .i64 t1, .int .i64 u, .int .i64 v, .int .i64 t2]) rfl rfl Z11 rfl (by kernel_rfl) (by kernel_rfl) ?_; intro w12 Z12 O12)
              have Z13 : Blk w12 b0 41 #[.slice q0 x.xTape.length d0, .slice q1 x.xUsed.length d1, .int .i64 (x.xSent + 2), .slice (some ⟨gH, 0, none⟩) x.xHeard.length d2, .int .i64 x.xCheat.xWho, .int .i64 x.xCheat.xAt, .int .i64 x.xCheat.xBy, .bool x.xCheat.xCry, .bool (claimZ x.xCheat q ⟨true, fm, ck, l, a, u, v, b⟩).xSome, .int .i64 (claimZ x.xCheat q ⟨true, fm, ck, l, a, u, v, b⟩).xFrom, .int .i64 (claimZ x.xCheat q ⟨true, fm, ck, l, a, u, v, b⟩).xCheck, .int .i64 (claimZ x.xCheat q ⟨true, fm, ck, l, a, u, v, b⟩).xTo, .int .i64 (claimZ x.xCheat q ⟨true, fm, ck, l, a, u, v, b⟩).xTold, .int .i64 (claimZ x.xCheat q ⟨true, fm, ck, l, a, u, v, b⟩).xHeard, .int .i64 (claimZ x.xCheat q ⟨true, fm, ck, l, a, u, v, b⟩).xOther, .int .i64 (claimZ x.xCheat q ⟨true, fm, ck, l, a, u, v, b⟩).xVowed] := by
                show Blk w12 b0 41 #[.slice q0 x.xTape.length d0, .slice q1 x.xUsed.length d1, .int .i64 (x.xSent + 2), .slice (some ⟨gH, 0, none⟩) x.xHeard.length d2, .int .i64 x.xCheat.xWho, .int .i64 x.xCheat.xAt, .int .i64 x.xCheat.xBy, .bool x.xCheat.xCry, .bool true, .int .i64 fm, .int .i64 ck, .int .i64 l, .int .i64 (standV x.xCheat fm a u), .int .i64 (if x.xCheat.xWho = (l : Int) then (u + x.xCheat.xBy) % q else u), .int .i64 v, .int .i64 (standV x.xCheat ck b v)]
                rw [G1.out, G2.out, HH.out]
                exact Z12
              have M13 := M11.off O12 (fun y hy hm => by simp at hm; exact nzc (by rw [← hm]; exact hy))
              have OF := OE.trans (O12.mono (by simp))
              go_ret
              exact ⟨by rw [HU.out]; rfl, cs, by rw [HE]; exact Z13, by rw [HU.out, HV.out]; exact M13, hcs2, OF⟩
end Go.Proofs.YtepobckhfodngaoGreat
