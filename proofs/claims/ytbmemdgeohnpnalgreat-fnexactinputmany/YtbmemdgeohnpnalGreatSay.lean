/-
  Contract of chapter 6 of the program: one message that nobody compares, on a copied net.
-/
import Derived.Test.YtbmemdgeohnpnalGreatJnM
import Derived.Deep.RegionHeld3
namespace Go.Proofs.YtbmemdgeohnpnalGreat
open Go.ChangeShapes Go.WideShapes Go.ChangeAt Go.RowKit
set_option linter.unusedVariables false
/-- what one message leaves of a copied net -/
def SayPost (w w' : World) (b0 : Nat) (x : MNet) (q0 q1 : Option Addr) (gH d0 d1 d2 : Nat) (b2 : List Nat) (l : Nat) (u : Int) : Prop :=
  ∃ cs, Blk w' b0 41 #[.slice q0 x.xTape.length d0, .slice q1 x.xUsed.length d1, .int .i64 (x.xSent + 1), .slice (some ⟨gH, 0, none⟩) x.xHeard.length d2, .int .i64 x.xCheat.xWho, .int .i64 x.xCheat.xAt, .int .i64 x.xCheat.xBy, .bool x.xCheat.xCry, .bool x.xQuarrel.xSome, .int .i64 x.xQuarrel.xFrom, .int .i64 x.xQuarrel.xCheck, .int .i64 x.xQuarrel.xTo, .int .i64 x.xQuarrel.xTold, .int .i64 x.xQuarrel.xHeard, .int .i64 x.xQuarrel.xOther, .int .i64 x.xQuarrel.xVowed] ∧ MatT w' (.slice (some ⟨gH, 0, none⟩) x.xHeard.length d2) (x.xHeard.set l (x.xHeard.getD l [] ++ [u])) cs ∧ (∀ y ∈ cs, y ∈ b2 ∨ w.heap.size ≤ y) ∧ Off (b0 :: b2) w w'
set_option maxHeartbeats 16000000 in
set_option maxRecDepth 100000 in
theorem impl_say (b0 : Nat) (x : MNet) (q0 q1 : Option Addr) (gH d0 d1 d2 : Nat) (b2 : List Nat) (fm : Int) (l : Nat) (a : Int) (w : World) (Z : Blk w b0 41 #[.slice q0 x.xTape.length d0, .slice q1 x.xUsed.length d1, .int .i64 x.xSent, .slice (some ⟨gH, 0, none⟩) x.xHeard.length d2, .int .i64 x.xCheat.xWho, .int .i64 x.xCheat.xAt, .int .i64 x.xCheat.xBy, .bool x.xCheat.xCry, .bool x.xQuarrel.xSome, .int .i64 x.xQuarrel.xFrom, .int .i64 x.xQuarrel.xCheck, .int .i64 x.xQuarrel.xTo, .int .i64 x.xQuarrel.xTold, .int .i64 x.xQuarrel.xHeard, .int .i64 x.xQuarrel.xOther, .int .i64 x.xQuarrel.xVowed]) (H : MatT w (.slice (some ⟨gH, 0, none⟩) x.xHeard.length d2) x.xHeard b2) (nb : b0 ∉ b2) (hs : 0 ≤ x.xSent ∧ x.xSent ≤ 999990) (ha : 0 ≤ a ∧ a < 256) (hy : 0 ≤ x.xCheat.xBy ∧ x.xCheat.xBy ≤ 255) (hl : l < x.xHeard.length) (hrow : (x.xHeard.getD l []).length ≤ 1000000000) :
    Calls Tryz.prog 97 #[.pointer (some ⟨b0, 0, none⟩), .int .i64 fm, .int .i64 l, .int .i64 a] w fun e w' => e = .returned (.int .i64 (tellV x.xCheat 256 x.xSent fm a)) ∧ SayPost w w' b0 x q0 q1 gH d0 d1 d2 b2 l (tellV x.xCheat 256 x.xSent fm a) := by
  obtain ⟨i1, gi, gz0, gz1, gz2⟩ := info_parts Tryz.infoI
  have hli : (l : Int) < (x.xHeard.length : Int) := by omega
  have ltb := Z.lt
  have KU := fun V => impl_told x.xCheat 256 x.xSent fm a V (.inr rfl) ha hy
  generalize tellV x.xCheat 256 x.xSent fm a = u at *
  go_enter Tryz.func97, Tryz.ntmps97
  go_wp2_with fail
  refine wp_region_held (S := fun V => (∀ o, V.cell? ⟨b0, o, none⟩ = (#[.slice q0 x.xTape.length d0, .slice q1 x.xUsed.length d1, .int .i64 x.xSent, .slice (some ⟨gH, 0, none⟩) x.xHeard.length d2, .int .i64 x.xCheat.xWho, .int .i64 x.xCheat.xAt, .int .i64 x.xCheat.xBy, .bool x.xCheat.xCry, .bool x.xQuarrel.xSome, .int .i64 x.xQuarrel.xFrom, .int .i64 x.xQuarrel.xCheck, .int .i64 x.xQuarrel.xTo, .int .i64 x.xQuarrel.xTold, .int .i64 x.xQuarrel.xHeard, .int .i64 x.xQuarrel.xOther, .int .i64 x.xQuarrel.xVowed] : Array Value)[o]?)) (by kernel_rfl) ?_
  try (change wpAnyH _ _ _ _ _ _ _ _ (World.drew _))
  have Zd : Blk w.drew b0 41 #[.slice q0 x.xTape.length d0, .slice q1 x.xUsed.length d1, .int .i64 x.xSent, .slice (some ⟨gH, 0, none⟩) x.xHeard.length d2, .int .i64 x.xCheat.xWho, .int .i64 x.xCheat.xAt, .int .i64 x.xCheat.xBy, .bool x.xCheat.xCry, .bool x.xQuarrel.xSome, .int .i64 x.xQuarrel.xFrom, .int .i64 x.xQuarrel.xCheck, .int .i64 x.xQuarrel.xTo, .int .i64 x.xQuarrel.xTold, .int .i64 x.xQuarrel.xHeard, .int .i64 x.xQuarrel.xOther, .int .i64 x.xQuarrel.xVowed] := Z.drew
  have hS : (∀ o, w.drew.cell? ⟨b0, o, none⟩ = (#[.slice q0 x.xTape.length d0, .slice q1 x.xUsed.length d1, .int .i64 x.xSent, .slice (some ⟨gH, 0, none⟩) x.xHeard.length d2, .int .i64 x.xCheat.xWho, .int .i64 x.xCheat.xAt, .int .i64 x.xCheat.xBy, .bool x.xCheat.xCry, .bool x.xQuarrel.xSome, .int .i64 x.xQuarrel.xFrom, .int .i64 x.xQuarrel.xCheck, .int .i64 x.xQuarrel.xTo, .int .i64 x.xQuarrel.xTold, .int .i64 x.xQuarrel.xHeard, .int .i64 x.xQuarrel.xOther, .int .i64 x.xQuarrel.xVowed] : Array Value)[o]?) := Zd.at.1
  refine wpAnyH_take (i := 0) (v := ?vn1) rfl (by kernel_rfl) (by kernel_rfl) (by kernel_rfl) (fun _ _ _ h => h) (Or.inl ⟨by rfl, ?hn1⟩) hS ?rn1
  case hn1 => intro w' hSw; go_simp; (try with_reducible rfl)
  (try simp only [List.getElem_toArray]); (try simp only [List.getElem_cons_succ]); (try simp only [List.getElem_cons_zero]); (try simp only [Act.put]); (try simp only [List.setIfInBounds_toArray]); (try simp only [List.set_cons_succ]); (try simp only [List.set_cons_zero])
  refine wpAnyH_take (i := 1) (v := ?vn2) rfl (by kernel_rfl) (by kernel_rfl) (by kernel_rfl) (fun _ _ _ h => h) (Or.inl ⟨by rfl, ?hn2⟩) hS ?rn2
  case hn2 => intro w' hSw; go_simp; (try with_reducible rfl)
  (try simp only [List.getElem_toArray]); (try simp only [List.getElem_cons_succ]); (try simp only [List.getElem_cons_zero]); (try simp only [Act.put]); (try simp only [List.setIfInBounds_toArray]); (try simp only [List.set_cons_succ]); (try simp only [List.set_cons_zero])
  refine wpAnyH_take (i := 2) (v := ?vn3) rfl (by kernel_rfl) (by kernel_rfl) (by kernel_rfl) (fun _ _ _ h => h) (Or.inl ⟨by rfl, ?hn3⟩) hS ?rn3
  case hn3 => intro w' hSw; go_simp; (try with_reducible rfl)
  (try simp only [List.getElem_toArray]); (try simp only [List.getElem_cons_succ]); (try simp only [List.getElem_cons_zero]); (try simp only [Act.put]); (try simp only [List.setIfInBounds_toArray]); (try simp only [List.set_cons_succ]); (try simp only [List.set_cons_zero])
  refine wpAnyH_take (i := 3) (v := ?vn4) rfl (by kernel_rfl) (by kernel_rfl) (by kernel_rfl) (fun _ _ _ h => h) (Or.inl ⟨by rfl, ?hn4⟩) hS ?rn4
  case hn4 => intro w' hSw; go_simp; (try with_reducible rfl)
  (try simp only [List.getElem_toArray]); (try simp only [List.getElem_cons_succ]); (try simp only [List.getElem_cons_zero]); (try simp only [Act.put]); (try simp only [List.setIfInBounds_toArray]); (try simp only [List.set_cons_succ]); (try simp only [List.set_cons_zero])
  refine wpAnyH_take (i := 4) (v := ?vn5) rfl (by kernel_rfl) (by kernel_rfl) (by kernel_rfl) (fun _ _ _ h => h) (Or.inl ⟨by rfl, ?hn5⟩) hS ?rn5
  case hn5 => intro w' hSw; go_simp; (try with_reducible rfl)
  (try simp only [List.getElem_toArray]); (try simp only [List.getElem_cons_succ]); (try simp only [List.getElem_cons_zero]); (try simp only [Act.put]); (try simp only [List.setIfInBounds_toArray]); (try simp only [List.set_cons_succ]); (try simp only [List.set_cons_zero])
  refine wpAnyH_take (i := 5) (v := ?vn6) rfl (by kernel_rfl) (by kernel_rfl) (by kernel_rfl) (fun _ _ _ h => h) (Or.inl ⟨by rfl, ?hn6⟩) hS ?rn6
  case hn6 => intro w' hSw; go_simp; (try with_reducible rfl)
  (try simp only [List.getElem_toArray]); (try simp only [List.getElem_cons_succ]); (try simp only [List.getElem_cons_zero]); (try simp only [Act.put]); (try simp only [List.setIfInBounds_toArray]); (try simp only [List.set_cons_succ]); (try simp only [List.set_cons_zero])
  refine wpAnyH_take (i := 6) (v := ?vn7) rfl (by kernel_rfl) (by kernel_rfl) (by kernel_rfl) (fun _ _ _ h => h) (Or.inl ⟨by rfl, ?hn7⟩) hS ?rn7
  case hn7 => intro w' hSw; go_simp; (try with_reducible rfl)
  (try simp only [List.getElem_toArray]); (try simp only [List.getElem_cons_succ]); (try simp only [List.getElem_cons_zero]); (try simp only [Act.put]); (try simp only [List.setIfInBounds_toArray]); (try simp only [List.set_cons_succ]); (try simp only [List.set_cons_zero])
  refine wpAnyH_take (i := 7) (v := ?vn8) rfl (by kernel_rfl) (by kernel_rfl) (by kernel_rfl) (fun _ _ _ h => h) (Or.inl ⟨by rfl, ?hn8⟩) hS ?rn8
  case hn8 => intro w' hSw; go_simp; (try with_reducible rfl)
  (try simp only [List.getElem_toArray]); (try simp only [List.getElem_cons_succ]); (try simp only [List.getElem_cons_zero]); (try simp only [Act.put]); (try simp only [List.setIfInBounds_toArray]); (try simp only [List.set_cons_succ]); (try simp only [List.set_cons_zero])
  refine wpAnyH_take (i := 8) (v := ?vn9) rfl (by kernel_rfl) (by kernel_rfl) (by kernel_rfl) (fun _ _ _ h => h) (Or.inl ⟨by rfl, ?hn9⟩) hS ?rn9
  case hn9 => intro w' hSw; go_simp; (try with_reducible rfl)
  (try simp only [List.getElem_toArray]); (try simp only [List.getElem_cons_succ]); (try simp only [List.getElem_cons_zero]); (try simp only [Act.put]); (try simp only [List.setIfInBounds_toArray]); (try simp only [List.set_cons_succ]); (try simp only [List.set_cons_zero])
  refine wpAnyH_take (i := 9) (v := ?vn10) rfl (by kernel_rfl) (by kernel_rfl) (by kernel_rfl) (fun _ _ _ h => h) (Or.inl ⟨by rfl, ?hn10⟩) hS ?rn10
  case hn10 => intro w' hSw; go_simp; (try with_reducible rfl)
  (try simp only [List.getElem_toArray]); (try simp only [List.getElem_cons_succ]); (try simp only [List.getElem_cons_zero]); (try simp only [Act.put]); (try simp only [List.setIfInBounds_toArray]); (try simp only [List.set_cons_succ]); (try simp only [List.set_cons_zero])
  refine wpAnyH_ready (rs := [10]) (by kernel_rfl) (by simp) ?_
  refine AllReadyH.cons (o := _) rfl (fun K hK => ?_) AllReadyH.nil
  rw [if_pos (by rfl)]
  go_simp
  go_at_call 121
  clear hS
  refine (KU _).mono ?_
  rintro e w1 ⟨rfl, h1⟩
  have B1 : Below w.heap.size w w1 := (Below.refl _ _).drew.trans h1
  have Z1 := Z.keep B1
  have H1 := H.keep B1
  have hS : (∀ o, w1.cell? ⟨b0, o, none⟩ = (#[.slice q0 x.xTape.length d0, .slice q1 x.xUsed.length d1, .int .i64 x.xSent, .slice (some ⟨gH, 0, none⟩) x.xHeard.length d2, .int .i64 x.xCheat.xWho, .int .i64 x.xCheat.xAt, .int .i64 x.xCheat.xBy, .bool x.xCheat.xCry, .bool x.xQuarrel.xSome, .int .i64 x.xQuarrel.xFrom, .int .i64 x.xQuarrel.xCheck, .int .i64 x.xQuarrel.xTo, .int .i64 x.xQuarrel.xTold, .int .i64 x.xQuarrel.xHeard, .int .i64 x.xQuarrel.xOther, .int .i64 x.xQuarrel.xVowed] : Array Value)[o]?) := Z1.at.1
  refine hK.out _ _ hS (fun hS => ?_)
  clear hK K
  (try simp only [List.getElem_toArray]); (try simp only [List.getElem_cons_succ]); (try simp only [List.getElem_cons_zero]); (try simp only [Act.put]); (try simp only [List.setIfInBounds_toArray]); (try simp only [List.set_cons_succ]); (try simp only [List.set_cons_zero])
  refine wpAnyH_take (i := 11) (v := ?vn11) rfl (by kernel_rfl) (by kernel_rfl) (by kernel_rfl) (fun _ _ _ h => h) (Or.inl ⟨by rfl, ?hn11⟩) hS ?rn11
  case hn11 => intro w' hSw; go_simp; (try with_reducible rfl)
  (try simp only [List.getElem_toArray]); (try simp only [List.getElem_cons_succ]); (try simp only [List.getElem_cons_zero]); (try simp only [Act.put]); (try simp only [List.setIfInBounds_toArray]); (try simp only [List.set_cons_succ]); (try simp only [List.set_cons_zero])
  refine wpAnyH_done (by kernel_rfl) ?_ _
  clear hS Zd Z H h1 KU
  have za := Z1.at.1
  have zb := Z1.at.2
  have zl := Z1.lt
  go_wp2_with fail
  have O6 : Off [b0] w1 (w1.setCell ⟨b0, 2, none⟩ (.int .i64 (x.xSent + 1))) := (Off.refl _ _).setCell _ _ (by simp)
  have Z6 : Blk (w1.setCell ⟨b0, 2, none⟩ (.int .i64 (x.xSent + 1))) b0 41 #[.slice q0 x.xTape.length d0, .slice q1 x.xUsed.length d1, .int .i64 (x.xSent + 1), .slice (some ⟨gH, 0, none⟩) x.xHeard.length d2, .int .i64 x.xCheat.xWho, .int .i64 x.xCheat.xAt, .int .i64 x.xCheat.xBy, .bool x.xCheat.xCry, .bool x.xQuarrel.xSome, .int .i64 x.xQuarrel.xFrom, .int .i64 x.xQuarrel.xCheck, .int .i64 x.xQuarrel.xTo, .int .i64 x.xQuarrel.xTold, .int .i64 x.xQuarrel.xHeard, .int .i64 x.xQuarrel.xOther, .int .i64 x.xQuarrel.xVowed] := Blk.of_eq (Z1.set 2 _) (by simp)
  have H6 := H1.off O6 (fun y hy hm => by simp at hm; exact nb (by rw [← hm]; exact hy))
  have OA : Off (b0 :: b2) w (w1.setCell ⟨b0, 2, none⟩ (.int .i64 (x.xSent + 1))) := (Off.ofBelow B1).trans (O6.mono (by simp))
  clear za zb zl Z1 H1 O6
  generalize w1.setCell ⟨b0, 2, none⟩ (.int .i64 (x.xSent + 1)) = w6 at *
  obtain ⟨vr, bt, It, ct, ft, nHt, gin, bin, AFTER⟩ := H6.grow l hl
  have nzt : b0 ∉ bt := fun h => nb (bin _ h)
  have ltH : gH < w6.heap.size := H6.lt _ gin
  have nzH : b0 ≠ gH := fun h => nb (by rw [h]; exact gin)
  obtain ⟨pr, cr, rfl⟩ := Own.value It
  have AFTERH := (show Hid _ from AFTER)
  clear AFTER
  generalize hrw : x.xHeard.getD l [] = row at *
  have hrl : row.length ≤ 1000000000 := hrow
  refine wp_region_held (S := fun V => (∀ o, V.cell? ⟨b0, o, none⟩ = (#[.slice q0 x.xTape.length d0, .slice q1 x.xUsed.length d1, .int .i64 (x.xSent + 1), .slice (some ⟨gH, 0, none⟩) x.xHeard.length d2, .int .i64 x.xCheat.xWho, .int .i64 x.xCheat.xAt, .int .i64 x.xCheat.xBy, .bool x.xCheat.xCry, .bool x.xQuarrel.xSome, .int .i64 x.xQuarrel.xFrom, .int .i64 x.xQuarrel.xCheck, .int .i64 x.xQuarrel.xTo, .int .i64 x.xQuarrel.xTold, .int .i64 x.xQuarrel.xHeard, .int .i64 x.xQuarrel.xOther, .int .i64 x.xQuarrel.xVowed] : Array Value)[o]?)) (by kernel_rfl) ?_
  try (change wpAnyH _ _ _ _ _ _ _ _ (World.drew _))
  have Zd : Blk w6.drew b0 41 #[.slice q0 x.xTape.length d0, .slice q1 x.xUsed.length d1, .int .i64 (x.xSent + 1), .slice (some ⟨gH, 0, none⟩) x.xHeard.length d2, .int .i64 x.xCheat.xWho, .int .i64 x.xCheat.xAt, .int .i64 x.xCheat.xBy, .bool x.xCheat.xCry, .bool x.xQuarrel.xSome, .int .i64 x.xQuarrel.xFrom, .int .i64 x.xQuarrel.xCheck, .int .i64 x.xQuarrel.xTo, .int .i64 x.xQuarrel.xTold, .int .i64 x.xQuarrel.xHeard, .int .i64 x.xQuarrel.xOther, .int .i64 x.xQuarrel.xVowed] := Z6.drew
  have hS : (∀ o, w6.drew.cell? ⟨b0, o, none⟩ = (#[.slice q0 x.xTape.length d0, .slice q1 x.xUsed.length d1, .int .i64 (x.xSent + 1), .slice (some ⟨gH, 0, none⟩) x.xHeard.length d2, .int .i64 x.xCheat.xWho, .int .i64 x.xCheat.xAt, .int .i64 x.xCheat.xBy, .bool x.xCheat.xCry, .bool x.xQuarrel.xSome, .int .i64 x.xQuarrel.xFrom, .int .i64 x.xQuarrel.xCheck, .int .i64 x.xQuarrel.xTo, .int .i64 x.xQuarrel.xTold, .int .i64 x.xQuarrel.xHeard, .int .i64 x.xQuarrel.xOther, .int .i64 x.xQuarrel.xVowed] : Array Value)[o]?) := Zd.at.1
  have Itd : IntsT w6.drew (.slice pr row.length cr) row bt := It.keep (Below.refl _ _).drew
  have ctd : w6.drew.cell? ⟨gH, l, none⟩ = some (.slice pr row.length cr) := ct
  refine wpAnyH_take (i := 0) (v := .pointer (some ⟨b0, 0, none⟩)) rfl (by kernel_rfl) (by kernel_rfl) (by kernel_rfl) (fun _ _ _ h => h) (Or.inl ⟨by rfl, ?_⟩) hS ?_
  · intro w' hSw
    go_simp
  (try simp only [List.getElem_toArray]); (try simp only [List.getElem_cons_succ]); (try simp only [List.getElem_cons_zero]); (try simp only [Act.put]); (try simp only [List.setIfInBounds_toArray]); (try simp only [List.set_cons_succ]); (try simp only [List.set_cons_zero])
  refine wpAnyH_take (i := 1) (v := .pointer (some ⟨b0, 0, none⟩)) rfl (by kernel_rfl) (by kernel_rfl) (by kernel_rfl) (fun _ _ _ h => h) (Or.inl ⟨by rfl, ?_⟩) hS ?_
  · intro w' hSw
    go_simp
  (try simp only [List.getElem_toArray]); (try simp only [List.getElem_cons_succ]); (try simp only [List.getElem_cons_zero]); (try simp only [Act.put]); (try simp only [List.setIfInBounds_toArray]); (try simp only [List.set_cons_succ]); (try simp only [List.set_cons_zero])
  refine wpAnyH_take (i := 2) (v := .pointer (some ⟨b0, 3, none⟩)) rfl (by kernel_rfl) (by kernel_rfl) (by kernel_rfl) (fun _ _ _ h => h) (Or.inl ⟨by rfl, ?_⟩) hS ?_
  · intro w' hSw
    go_simp
  (try simp only [List.getElem_toArray]); (try simp only [List.getElem_cons_succ]); (try simp only [List.getElem_cons_zero]); (try simp only [Act.put]); (try simp only [List.setIfInBounds_toArray]); (try simp only [List.set_cons_succ]); (try simp only [List.set_cons_zero])
  refine wpAnyH_take (i := 3) (v := .slice (some ⟨gH, 0, none⟩) x.xHeard.length d2) rfl (by kernel_rfl) (by kernel_rfl) (by kernel_rfl) (fun _ _ _ h => h) (Or.inl ⟨by rfl, ?_⟩) hS ?_
  · intro w' hSw
    go_simp
  (try simp only [List.getElem_toArray]); (try simp only [List.getElem_cons_succ]); (try simp only [List.getElem_cons_zero]); (try simp only [Act.put]); (try simp only [List.setIfInBounds_toArray]); (try simp only [List.set_cons_succ]); (try simp only [List.set_cons_zero])
  refine wpAnyH_take (i := 4) (v := .int .i64 l) rfl (by kernel_rfl) (by kernel_rfl) (by kernel_rfl) (fun _ _ _ h => h) (Or.inl ⟨by rfl, ?_⟩) hS ?_
  · intro w' hSw
    go_simp
  (try simp only [List.getElem_toArray]); (try simp only [List.getElem_cons_succ]); (try simp only [List.getElem_cons_zero]); (try simp only [Act.put]); (try simp only [List.setIfInBounds_toArray]); (try simp only [List.set_cons_succ]); (try simp only [List.set_cons_zero])
  refine wpAnyH_take (i := 5) (v := .pointer (some ⟨b0, 0, none⟩)) rfl (by kernel_rfl) (by kernel_rfl) (by kernel_rfl) (fun _ _ _ h => h) (Or.inl ⟨by rfl, ?_⟩) hS ?_
  · intro w' hSw
    go_simp
  (try simp only [List.getElem_toArray]); (try simp only [List.getElem_cons_succ]); (try simp only [List.getElem_cons_zero]); (try simp only [Act.put]); (try simp only [List.setIfInBounds_toArray]); (try simp only [List.set_cons_succ]); (try simp only [List.set_cons_zero])
  refine wpAnyH_take (i := 6) (v := .pointer (some ⟨b0, 0, none⟩)) rfl (by kernel_rfl) (by kernel_rfl) (by kernel_rfl) (fun _ _ _ h => h) (Or.inl ⟨by rfl, ?_⟩) hS ?_
  · intro w' hSw
    go_simp
  (try simp only [List.getElem_toArray]); (try simp only [List.getElem_cons_succ]); (try simp only [List.getElem_cons_zero]); (try simp only [Act.put]); (try simp only [List.setIfInBounds_toArray]); (try simp only [List.set_cons_succ]); (try simp only [List.set_cons_zero])
  refine wpAnyH_take (i := 7) (v := .pointer (some ⟨b0, 3, none⟩)) rfl (by kernel_rfl) (by kernel_rfl) (by kernel_rfl) (fun _ _ _ h => h) (Or.inl ⟨by rfl, ?_⟩) hS ?_
  · intro w' hSw
    go_simp
  (try simp only [List.getElem_toArray]); (try simp only [List.getElem_cons_succ]); (try simp only [List.getElem_cons_zero]); (try simp only [Act.put]); (try simp only [List.setIfInBounds_toArray]); (try simp only [List.set_cons_succ]); (try simp only [List.set_cons_zero])
  refine wpAnyH_take (i := 8) (v := .slice (some ⟨gH, 0, none⟩) x.xHeard.length d2) rfl (by kernel_rfl) (by kernel_rfl) (by kernel_rfl) (fun _ _ _ h => h) (Or.inl ⟨by rfl, ?_⟩) hS ?_
  · intro w' hSw
    go_simp
  (try simp only [List.getElem_toArray]); (try simp only [List.getElem_cons_succ]); (try simp only [List.getElem_cons_zero]); (try simp only [Act.put]); (try simp only [List.setIfInBounds_toArray]); (try simp only [List.set_cons_succ]); (try simp only [List.set_cons_zero])
  refine wpAnyH_take (i := 9) (v := .int .i64 l) rfl (by kernel_rfl) (by kernel_rfl) (by kernel_rfl) (fun _ _ _ h => h) (Or.inl ⟨by rfl, ?_⟩) hS ?_
  · intro w' hSw
    go_simp
  (try simp only [List.getElem_toArray]); (try simp only [List.getElem_cons_succ]); (try simp only [List.getElem_cons_zero]); (try simp only [Act.put]); (try simp only [List.setIfInBounds_toArray]); (try simp only [List.set_cons_succ]); (try simp only [List.set_cons_zero])
  refine wpAnyH_take (i := 10) (v := .pointer (some ⟨gH, l, none⟩)) rfl (by kernel_rfl) (by kernel_rfl) (by kernel_rfl) (fun _ _ _ h => h) (Or.inl ⟨by rfl, ?_⟩) hS ?_
  · intro w' hSw
    go_simp
  (try simp only [List.getElem_toArray]); (try simp only [List.getElem_cons_succ]); (try simp only [List.getElem_cons_zero]); (try simp only [Act.put]); (try simp only [List.setIfInBounds_toArray]); (try simp only [List.set_cons_succ]); (try simp only [List.set_cons_zero])
  refine wpAnyH_take (i := 12) (v := .int .i64 u) rfl (by kernel_rfl) (by kernel_rfl) (by kernel_rfl) (fun _ _ _ h => h) (Or.inl ⟨by rfl, ?_⟩) hS ?_
  · intro w' hSw
    go_simp
  (try simp only [List.getElem_toArray]); (try simp only [List.getElem_cons_succ]); (try simp only [List.getElem_cons_zero]); (try simp only [Act.put]); (try simp only [List.setIfInBounds_toArray]); (try simp only [List.set_cons_succ]); (try simp only [List.set_cons_zero])
  refine wpAnyH_ready (rs := [11, 13]) (by kernel_rfl) (by simp) ?_
  refine AllReadyH.cons (o := _) rfl (fun K hK => ?_) (AllReadyH.cons (o := _) rfl (fun K hK => ?_) AllReadyH.nil)
  · rw [if_pos (by rfl)]
    go_simp
    refine hK.out _ _ hS (fun hS => ?_)
    clear hK K
    (try simp only [List.getElem_toArray]); (try simp only [List.getElem_cons_succ]); (try simp only [List.getElem_cons_zero]); (try simp only [Act.put]); (try simp only [List.setIfInBounds_toArray]); (try simp only [List.set_cons_succ]); (try simp only [List.set_cons_zero])
    refine wpAnyH_ready (rs := [13]) (by kernel_rfl) (by simp) ?_
    refine AllReadyH.cons (o := _) rfl (fun K hK => ?_) AllReadyH.nil
    rw [if_pos (by rfl)]
    go_simp
    refine hK.out _ _ (Zd.alloc (.cells #[.int .i64 u] 2)).at.1 (fun hS => ?_)
    clear hK K
    (try simp only [List.getElem_toArray]); (try simp only [List.getElem_cons_succ]); (try simp only [List.getElem_cons_zero]); (try simp only [Act.put]); (try simp only [List.setIfInBounds_toArray]); (try simp only [List.set_cons_succ]); (try simp only [List.set_cons_zero])
    refine wpAnyH_ready (rs := [14]) (by kernel_rfl) (by simp) ?_
    refine AllReadyH.cons (o := _) rfl (fun K hK => ?_) AllReadyH.nil
    refine step_append_Own rfl (.tmp 39) (.tmp 41) 25 rfl 2 i1 (.int .i64 0) 1 8 Tryz.underlying25 gi gz0 gz1 gz2 rfl (by decide) (.slice pr row.length cr) row.length (row.map (Value.int .i64)) bt rfl (Own.alloc Itd _) ⟨w6.heap.size, 0, none⟩ 1 1 [.int .i64 u] rfl rfl (one_new (Blk.new w6.drew 2 #[.int .i64 u])) (by intro y hy; simp at hy; subst hy; rfl) (by omega) (by unfold maxLen; omega) (by omega) ?_
    intro g cap w7 hO7 hF7 hg7
    have Z7 := (Zd.alloc (.cells #[.int .i64 u] 2)).off hF7 nzt
    have ltH2 : gH < (w6.drew.alloc (.cells #[.int .i64 u] 2)).heap.size := by simp; exact Nat.lt_succ_of_lt ltH
    have c7 : w7.cell? ⟨gH, l, none⟩ = some (.slice pr row.length cr) := ((hF7.at gH ltH2 nHt).1 l).trans ((((Below.refl w6.drew.heap.size w6.drew).alloc (Nat.le_refl _) (.cells #[.int .i64 u] 2)).cell (p := ⟨gH, l, none⟩) ltH).trans ctd)
    have f7 : w7.frozen? ⟨gH, l, none⟩ = false := ((hF7.at gH ltH2 nHt).2 l).trans ((((Below.refl w6.drew.heap.size w6.drew).alloc (Nat.le_refl _) (.cells #[.int .i64 u] 2)).frozen (p := ⟨gH, l, none⟩) ltH).trans ft)
    refine hK.out _ _ Z7.at.1 (fun hS => ?_)
    clear hK K
    (try simp only [List.getElem_toArray]); (try simp only [List.getElem_cons_succ]); (try simp only [List.getElem_cons_zero]); (try simp only [Act.put]); (try simp only [List.setIfInBounds_toArray]); (try simp only [List.set_cons_succ]); (try simp only [List.set_cons_zero])
    refine wpAnyH_take (i := 15) (v := .pointer (some ⟨gH, l, none⟩)) rfl (by kernel_rfl) (by kernel_rfl) (by kernel_rfl) (fun _ _ _ h => h) (Or.inl ⟨by rfl, ?_⟩) hS ?_
    · intro w' hSw
      go_simp
    (try simp only [List.getElem_toArray]); (try simp only [List.getElem_cons_succ]); (try simp only [List.getElem_cons_zero]); (try simp only [Act.put]); (try simp only [List.setIfInBounds_toArray]); (try simp only [List.set_cons_succ]); (try simp only [List.set_cons_zero])
    refine wpAnyH_ready (rs := [16]) (by kernel_rfl) (by simp) ?_
    refine AllReadyH.cons (o := _) rfl (fun K hK => ?_) AllReadyH.nil
    rw [if_pos (by rfl)]
    go_simp
    have oF : Off bt w6 w7 := (((Off.refl bt w6).drew).alloc (.cells #[.int .i64 u] 2)).trans hF7
    have Z8 := Z7.setOther ⟨gH, l, none⟩ (.slice (some ⟨g, 0, none⟩) (row.length + 1) cap) (by simp; omega)
    refine hK.out _ _ Z8.at.1 (fun hS => ?_)
    clear hK K
    refine wpAnyH_done (by kernel_rfl) ?_ _
    obtain ⟨cs, M8, hcs⟩ := AFTERH.out w7 (.slice (some ⟨g, 0, none⟩) (row.length + 1) cap) (row ++ [u]) g oF (by unfold IntsT; simpa using hO7) (hg7.imp id (fun h => by (try simp at h); omega))
    have hcs2 : ∀ y ∈ cs, y ∈ b2 ∨ w6.heap.size ≤ y := fun y hy => (hcs y hy).elim .inl (fun e => by rw [e]; exact hg7.elim (fun h => .inl (bin g (by rw [h]; simp))) (fun h => .inr (by (try simp at h); omega)))
    have oG : Off b2 w6 (w7.setCell ⟨gH, l, none⟩ (.slice (some ⟨g, 0, none⟩) (row.length + 1) cap)) := (oF.mono bin).setCell _ _ (.inl gin)
    have OB := OA.trans (oG.mono (fun y hy => by simp [hy]))
    have hcs3 : ∀ y ∈ cs, y ∈ b2 ∨ w.heap.size ≤ y := fun y hy => (hcs2 y hy).imp id (fun h => Nat.le_trans OA.size h)
    subst hrw
    go_wp2
    go_ret
    exact ⟨rfl, cs, Z8, M8, hcs3, OB⟩
  · rw [if_pos (by rfl)]
    go_simp
    refine hK.out _ _ (Zd.alloc (.cells #[.int .i64 u] 2)).at.1 (fun hS => ?_)
    clear hK K
    (try simp only [List.getElem_toArray]); (try simp only [List.getElem_cons_succ]); (try simp only [List.getElem_cons_zero]); (try simp only [Act.put]); (try simp only [List.setIfInBounds_toArray]); (try simp only [List.set_cons_succ]); (try simp only [List.set_cons_zero])
    have cta : (w6.drew.alloc (.cells #[.int .i64 u] 2)).cell? ⟨gH, l, none⟩ = some (.slice pr row.length cr) := (((Below.refl w6.drew.heap.size w6.drew).alloc (Nat.le_refl _) (.cells #[.int .i64 u] 2)).cell (p := ⟨gH, l, none⟩) ltH).trans ctd
    refine wpAnyH_ready (rs := [11]) (by kernel_rfl) (by simp) ?_
    refine AllReadyH.cons (o := _) rfl (fun K hK => ?_) AllReadyH.nil
    rw [if_pos (by rfl)]
    go_simp
    refine hK.out _ _ hS (fun hS => ?_)
    clear hK K
    (try simp only [List.getElem_toArray]); (try simp only [List.getElem_cons_succ]); (try simp only [List.getElem_cons_zero]); (try simp only [Act.put]); (try simp only [List.setIfInBounds_toArray]); (try simp only [List.set_cons_succ]); (try simp only [List.set_cons_zero])
    refine wpAnyH_ready (rs := [14]) (by kernel_rfl) (by simp) ?_
    refine AllReadyH.cons (o := _) rfl (fun K hK => ?_) AllReadyH.nil
    refine step_append_Own rfl (.tmp 39) (.tmp 41) 25 rfl 2 i1 (.int .i64 0) 1 8 Tryz.underlying25 gi gz0 gz1 gz2 rfl (by decide) (.slice pr row.length cr) row.length (row.map (Value.int .i64)) bt rfl (Own.alloc Itd _) ⟨w6.heap.size, 0, none⟩ 1 1 [.int .i64 u] rfl rfl (one_new (Blk.new w6.drew 2 #[.int .i64 u])) (by intro y hy; simp at hy; subst hy; rfl) (by omega) (by unfold maxLen; omega) (by omega) ?_
    intro g cap w7 hO7 hF7 hg7
    have Z7 := (Zd.alloc (.cells #[.int .i64 u] 2)).off hF7 nzt
    have ltH2 : gH < (w6.drew.alloc (.cells #[.int .i64 u] 2)).heap.size := by simp; exact Nat.lt_succ_of_lt ltH
    have c7 : w7.cell? ⟨gH, l, none⟩ = some (.slice pr row.length cr) := ((hF7.at gH ltH2 nHt).1 l).trans ((((Below.refl w6.drew.heap.size w6.drew).alloc (Nat.le_refl _) (.cells #[.int .i64 u] 2)).cell (p := ⟨gH, l, none⟩) ltH).trans ctd)
    have f7 : w7.frozen? ⟨gH, l, none⟩ = false := ((hF7.at gH ltH2 nHt).2 l).trans ((((Below.refl w6.drew.heap.size w6.drew).alloc (Nat.le_refl _) (.cells #[.int .i64 u] 2)).frozen (p := ⟨gH, l, none⟩) ltH).trans ft)
    refine hK.out _ _ Z7.at.1 (fun hS => ?_)
    clear hK K
    (try simp only [List.getElem_toArray]); (try simp only [List.getElem_cons_succ]); (try simp only [List.getElem_cons_zero]); (try simp only [Act.put]); (try simp only [List.setIfInBounds_toArray]); (try simp only [List.set_cons_succ]); (try simp only [List.set_cons_zero])
    refine wpAnyH_take (i := 15) (v := .pointer (some ⟨gH, l, none⟩)) rfl (by kernel_rfl) (by kernel_rfl) (by kernel_rfl) (fun _ _ _ h => h) (Or.inl ⟨by rfl, ?_⟩) hS ?_
    · intro w' hSw
      go_simp
    (try simp only [List.getElem_toArray]); (try simp only [List.getElem_cons_succ]); (try simp only [List.getElem_cons_zero]); (try simp only [Act.put]); (try simp only [List.setIfInBounds_toArray]); (try simp only [List.set_cons_succ]); (try simp only [List.set_cons_zero])
    refine wpAnyH_ready (rs := [16]) (by kernel_rfl) (by simp) ?_
    refine AllReadyH.cons (o := _) rfl (fun K hK => ?_) AllReadyH.nil
    rw [if_pos (by rfl)]
    go_simp
    have oF : Off bt w6 w7 := (((Off.refl bt w6).drew).alloc (.cells #[.int .i64 u] 2)).trans hF7
    have Z8 := Z7.setOther ⟨gH, l, none⟩ (.slice (some ⟨g, 0, none⟩) (row.length + 1) cap) (by simp; omega)
    refine hK.out _ _ Z8.at.1 (fun hS => ?_)
    clear hK K
    refine wpAnyH_done (by kernel_rfl) ?_ _
    obtain ⟨cs, M8, hcs⟩ := AFTERH.out w7 (.slice (some ⟨g, 0, none⟩) (row.length + 1) cap) (row ++ [u]) g oF (by unfold IntsT; simpa using hO7) (hg7.imp id (fun h => by (try simp at h); omega))
    have hcs2 : ∀ y ∈ cs, y ∈ b2 ∨ w6.heap.size ≤ y := fun y hy => (hcs y hy).elim .inl (fun e => by rw [e]; exact hg7.elim (fun h => .inl (bin g (by rw [h]; simp))) (fun h => .inr (by (try simp at h); omega)))
    have oG : Off b2 w6 (w7.setCell ⟨gH, l, none⟩ (.slice (some ⟨g, 0, none⟩) (row.length + 1) cap)) := (oF.mono bin).setCell _ _ (.inl gin)
    have OB := OA.trans (oG.mono (fun y hy => by simp [hy]))
    have hcs3 : ∀ y ∈ cs, y ∈ b2 ∨ w.heap.size ≤ y := fun y hy => (hcs2 y hy).imp id (fun h => Nat.le_trans OA.size h)
    subst hrw
    go_wp2
    go_ret
    exact ⟨rfl, cs, Z8, M8, hcs3, OB⟩
end Go.Proofs.YtbmemdgeohnpnalGreat
