/-
  Draws of chapter 6: one input, its net read whatever is turned below.
-/
import Derived.Test.YtbmemdgeohnpnacDraw10
namespace Go.Proofs.Ytbmemdgeohnpnac
open Go.ChangeShapes Go.WideShapes Go.ChangeAt Go.RowKit
set_option linter.unusedVariables false

theorem Off.past14 {bs cs : List Nat} {a b c : World} (h : Off bs a b) (k : Off cs b c) (hc : ∀ z ∈ cs, z ∈ bs ∨ a.heap.size ≤ z) : Off bs a c :=
  ⟨k.os.trans h.os, k.tape.trans h.tape, k.output.trans h.output, Nat.le_trans h.size k.size, fun i hi hn => (k.block i (Nat.lt_of_lt_of_le hi h.size) (fun hm => by rcases hc i hm with h' | h'; (exact hn h'); omega)).trans (h.block i hi hn)⟩
set_option maxHeartbeats 8000000 in
set_option maxRecDepth 100000 in
theorem spec_DrawInputMirrorS (a : Option Addr) (cap : Nat) (zs : List Int) (w : World) (hr : Reads w .u8 (.slice a zs.length cap) zs) (hl : zs.length ≤ 1048576) (hb : ∀ i, 0 ≤ zs.getD i 0 ∧ zs.getD i 0 ≤ 255) :
    Calls Try.prog 7 #[.slice a zs.length cap] w fun e w' => ∃ p0 c0 p1 c1 p2 c2, ∃ x : MNet, ∃ o v : Int, e = .returned (.tuple #[.agg #[.slice p0 x.xTape.length c0, .slice p1 x.xUsed.length c1, .int .i64 x.xSent, .slice p2 x.xHeard.length c2, .int .i64 x.xCheat.xWho, .int .i64 x.xCheat.xAt, .int .i64 x.xCheat.xBy, .bool x.xCheat.xCry, .bool x.xQuarrel.xSome, .int .i64 x.xQuarrel.xFrom, .int .i64 x.xQuarrel.xCheck, .int .i64 x.xQuarrel.xTo, .int .i64 x.xQuarrel.xTold, .int .i64 x.xQuarrel.xHeard, .int .i64 x.xQuarrel.xOther, .int .i64 x.xQuarrel.xVowed], .int .i64 o, .int .i64 v]) ∧ (∀ V cs, Off cs w' V → (∀ z ∈ cs, z < w.heap.size) → RdNet V (.agg #[.slice p0 x.xTape.length c0, .slice p1 x.xUsed.length c1, .int .i64 x.xSent, .slice p2 x.xHeard.length c2, .int .i64 x.xCheat.xWho, .int .i64 x.xCheat.xAt, .int .i64 x.xCheat.xBy, .bool x.xCheat.xCry, .bool x.xQuarrel.xSome, .int .i64 x.xQuarrel.xFrom, .int .i64 x.xQuarrel.xCheck, .int .i64 x.xQuarrel.xTo, .int .i64 x.xQuarrel.xTold, .int .i64 x.xQuarrel.xHeard, .int .i64 x.xQuarrel.xOther, .int .i64 x.xQuarrel.xVowed]) x) ∧ Fit x ∧ Below w.heap.size w w' := by
  have B0 : Below w.heap.size w (w.alloc (.cells #[.slice none 0 0, .slice none 0 0, .int .i64 0, .slice none 0 0, .int .i64 0, .int .i64 0, .int .i64 0, .bool false, .bool false, .int .i64 0, .int .i64 0, .int .i64 0, .int .i64 0, .int .i64 0, .int .i64 0, .int .i64 0] 33)) := (by repeat (first | exact Below.refl _ _ | refine Below.drew ?_ | refine below_drewN ?_ _ | refine Below.setCell ?_ (by first | omega | (simp; done) | (simp; omega)) _ | refine Below.alloc ?_ (by first | omega | (simp; done) | (simp; omega)) _))
  have Y0 := Blk.new w 33 #[.slice none 0 0, .slice none 0 0, .int .i64 0, .slice none 0 0, .int .i64 0, .int .i64 0, .int .i64 0, .bool false, .bool false, .int .i64 0, .int .i64 0, .int .i64 0, .int .i64 0, .int .i64 0, .int .i64 0, .int .i64 0]
  go_enter Try.func7, Try.ntmps7
  go_wp2_with fail
  refine (spec_l1Source a cap zs _ (hr.below B0) hl hb).mono ?_
  rintro e w1 ⟨rfl, s1, hb1⟩
  have hz : (w.alloc (.cells #[.slice none 0 0, .slice none 0 0, .int .i64 0, .slice none 0 0, .int .i64 0, .int .i64 0, .int .i64 0, .bool false, .bool false, .int .i64 0, .int .i64 0, .int .i64 0, .int .i64 0, .int .i64 0, .int .i64 0, .int .i64 0] 33)).heap.size = w.heap.size + 1 := by simp
  rw [hz] at s1 ⊢
  replace Y0 := Y0.keep hb1
  replace B0 : Below w.heap.size w w1 := B0.trans (hb1.mono B0.size)
  have l1 := s1.blk.lt
  clear hb1 hz
  go_wp2_with fail
  refine (spec_l5Net _ a cap zs 0 _ s1 (by omega)).mono ?_
  rintro e w2 ⟨u, rfl, x, hR, hF, ⟨j, hj, s2⟩, o2⟩
  obtain ⟨p0, c0, p1, c1, p2, c2, rfl, -⟩ := hR w2 [] (Off.refl _ _) (by simp)
  have HR : Hid (∀ W cs, Off cs w2 W → (∀ z ∈ cs, z < w1.heap.size ∨ w2.heap.size ≤ z) → RdNet W (.agg #[.slice p0 x.xTape.length c0, .slice p1 x.xUsed.length c1, .int .i64 x.xSent, .slice p2 x.xHeard.length c2, .int .i64 x.xCheat.xWho, .int .i64 x.xCheat.xAt, .int .i64 x.xCheat.xBy, .bool x.xCheat.xCry, .bool x.xQuarrel.xSome, .int .i64 x.xQuarrel.xFrom, .int .i64 x.xQuarrel.xCheck, .int .i64 x.xQuarrel.xTo, .int .i64 x.xQuarrel.xTold, .int .i64 x.xQuarrel.xHeard, .int .i64 x.xQuarrel.xOther, .int .i64 x.xQuarrel.xVowed]) x) := fun W cs o h => hR W (cs.filter (fun z => z < w1.heap.size)) ⟨o.os, o.tape, o.output, o.size, fun i hi hn => o.block i hi (fun hm => by
      rcases h i hm with h' | h'
      · exact hn (List.mem_filter.2 ⟨hm, by simpa using h'⟩)
      · omega)⟩ (fun z hz => by have := (List.mem_filter.1 hz).2; simpa using this)
  have HF : Hid (Fit x) := hF
  have Y2 := Y0.off o2 (by simp)
  have z2 := o2.size
  have B2 : Below w.heap.size w w2 := B0.trans (o2.toBelow B0.size (by simp))
  clear hR hF Y0 B0 o2 s1
  have Zn := Blk.new w2 33 #[.slice none 0 0, .slice none 0 0, .int .i64 0, .slice none 0 0, .int .i64 0, .int .i64 0, .int .i64 0, .bool false, .bool false, .int .i64 0, .int .i64 0, .int .i64 0, .int .i64 0, .int .i64 0, .int .i64 0, .int .i64 0]
  go_wp2_with (refine wpList_store_blk rfl 33 _ _ rfl w2.heap.size (#[.slice p0 x.xTape.length c0, .slice p1 x.xUsed.length c1, .int .i64 x.xSent, .slice p2 x.xHeard.length c2, .int .i64 x.xCheat.xWho, .int .i64 x.xCheat.xAt, .int .i64 x.xCheat.xBy, .bool x.xCheat.xCry, .bool x.xQuarrel.xSome, .int .i64 x.xQuarrel.xFrom, .int .i64 x.xQuarrel.xCheck, .int .i64 x.xQuarrel.xTo, .int .i64 x.xQuarrel.xTold, .int .i64 x.xQuarrel.xHeard, .int .i64 x.xQuarrel.xOther, .int .i64 x.xQuarrel.xVowed]) rfl rfl Zn rfl (by kernel_rfl) (by kernel_rfl) ?_; intro w3 Z3 O3)
  have P3 : Off [w2.heap.size] w2 w3 := ((Off.refl _ _).alloc _).trans O3
  have Y3 := Y2.off P3 (by simp; omega)
  have B3 : Below w.heap.size w w3 := B2.trans (P3.toBelow B2.size (by simp; omega))
  have s3 := s2.off P3 (fun y hy => by simp at hy; omega)
  have z3 := P3.size
  have lz3 := Z3.lt
  clear Y2 B2 s2 O3 Zn
  generalize hg : w2.heap.size = g at *
  have Q3 : Off [w.heap.size + 1, g, w.heap.size] w2 w3 := P3.mono (by simp)
  clear P3
  go_wp2_with fail
  refine (spec_l1Chance _ a cap zs (0 + j) 6 _ s3 (by omega) (by omega)).mono ?_
  rintro e w4 ⟨r, rfl, s4, o4⟩
  have Y4 := Y3.off o4 (by simp)
  have Z4 := Z3.off o4 (by simp; omega)
  have z4 := o4.size
  have B4 := B3.trans (o4.toBelow B3.size (by simp))
  have Q4 := Q3.trans (o4.mono (by simp))
  clear Y3 Z3 B3 Q3 s3 o4
  cases r
  · have tkA : True := trivial
    have Zd := Z4.drew
    have Yd := Y4.drew
    have sd : Src w4.drew (w.heap.size + 1) a cap zs (0 + j + 1) := s4.keep (Below.refl _ _).drew
    have Bd := B4.drew
    have lb := sd.blk.lt
    have lgd := Zd.lt
    have lyd := Yd.lt
    clear Z4 Y4 s4 B4
    go_wp2_with fail
    refine wp_region_held (S := fun V => (∀ o, V.cell? ⟨g, o, none⟩ = (#[.slice p0 x.xTape.length c0, .slice p1 x.xUsed.length c1, .int .i64 x.xSent, .slice p2 x.xHeard.length c2, .int .i64 x.xCheat.xWho, .int .i64 x.xCheat.xAt, .int .i64 x.xCheat.xBy, .bool x.xCheat.xCry, .bool x.xQuarrel.xSome, .int .i64 x.xQuarrel.xFrom, .int .i64 x.xQuarrel.xCheck, .int .i64 x.xQuarrel.xTo, .int .i64 x.xQuarrel.xTold, .int .i64 x.xQuarrel.xHeard, .int .i64 x.xQuarrel.xOther, .int .i64 x.xQuarrel.xVowed] : Array Value)[o]?)) (by kernel_rfl) ?_
    try (change wpAnyH _ _ _ _ _ _ _ _ (World.drew _))
    have hS : (∀ o, w4.drew.cell? ⟨g, o, none⟩ = (#[.slice p0 x.xTape.length c0, .slice p1 x.xUsed.length c1, .int .i64 x.xSent, .slice p2 x.xHeard.length c2, .int .i64 x.xCheat.xWho, .int .i64 x.xCheat.xAt, .int .i64 x.xCheat.xBy, .bool x.xCheat.xCry, .bool x.xQuarrel.xSome, .int .i64 x.xQuarrel.xFrom, .int .i64 x.xQuarrel.xCheck, .int .i64 x.xQuarrel.xTo, .int .i64 x.xQuarrel.xTold, .int .i64 x.xQuarrel.xHeard, .int .i64 x.xQuarrel.xOther, .int .i64 x.xQuarrel.xVowed] : Array Value)[o]?) := Zd.at.1
    refine wpAnyH_take (i := 0) (v := .agg #[.slice p0 x.xTape.length c0, .slice p1 x.xUsed.length c1, .int .i64 x.xSent, .slice p2 x.xHeard.length c2, .int .i64 x.xCheat.xWho, .int .i64 x.xCheat.xAt, .int .i64 x.xCheat.xBy, .bool x.xCheat.xCry, .bool x.xQuarrel.xSome, .int .i64 x.xQuarrel.xFrom, .int .i64 x.xQuarrel.xCheck, .int .i64 x.xQuarrel.xTo, .int .i64 x.xQuarrel.xTold, .int .i64 x.xQuarrel.xHeard, .int .i64 x.xQuarrel.xOther, .int .i64 x.xQuarrel.xVowed]) rfl (by kernel_rfl) (by kernel_rfl) (by kernel_rfl) (fun _ _ _ h => h) (Or.inl ⟨by rfl, ?_⟩) hS ?_
    · intro w' hSw
      go_simp
    (try simp only [List.getElem_toArray]); (try simp only [List.getElem_cons_succ]); (try simp only [List.getElem_cons_zero]); (try simp only [Act.put]); (try simp only [List.setIfInBounds_toArray]); (try simp only [List.set_cons_succ]); (try simp only [List.set_cons_zero])
    refine wpAnyH_take (i := 1) (v := .pointer (some ⟨w.heap.size + 1, 0, none⟩)) rfl (by kernel_rfl) (by kernel_rfl) (by kernel_rfl) (fun _ _ _ h => h) (Or.inl ⟨by rfl, ?_⟩) hS ?_
    · intro w' hSw
      go_simp
    (try simp only [List.getElem_toArray]); (try simp only [List.getElem_cons_succ]); (try simp only [List.getElem_cons_zero]); (try simp only [Act.put]); (try simp only [List.setIfInBounds_toArray]); (try simp only [List.set_cons_succ]); (try simp only [List.set_cons_zero])
    refine wpAnyH_take (i := 4) (v := .pointer (some ⟨w.heap.size + 1, 0, none⟩)) rfl (by kernel_rfl) (by kernel_rfl) (by kernel_rfl) (fun _ _ _ h => h) (Or.inl ⟨by rfl, ?_⟩) hS ?_
    · intro w' hSw
      go_simp
    (try simp only [List.getElem_toArray]); (try simp only [List.getElem_cons_succ]); (try simp only [List.getElem_cons_zero]); (try simp only [Act.put]); (try simp only [List.setIfInBounds_toArray]); (try simp only [List.set_cons_succ]); (try simp only [List.set_cons_zero])
    refine wpAnyH_take (i := 5) (v := .pointer (some ⟨w.heap.size + 1, 0, none⟩)) rfl (by kernel_rfl) (by kernel_rfl) (by kernel_rfl) (fun _ _ _ h => h) (Or.inl ⟨by rfl, ?_⟩) hS ?_
    · intro w' hSw
      go_simp
    (try simp only [List.getElem_toArray]); (try simp only [List.getElem_cons_succ]); (try simp only [List.getElem_cons_zero]); (try simp only [Act.put]); (try simp only [List.setIfInBounds_toArray]); (try simp only [List.set_cons_succ]); (try simp only [List.set_cons_zero])
    refine wpAnyH_take (i := 7) (v := .pointer (some ⟨w.heap.size + 1, 0, none⟩)) rfl (by kernel_rfl) (by kernel_rfl) (by kernel_rfl) (fun _ _ _ h => h) (Or.inl ⟨by rfl, ?_⟩) hS ?_
    · intro w' hSw
      go_simp
    (try simp only [List.getElem_toArray]); (try simp only [List.getElem_cons_succ]); (try simp only [List.getElem_cons_zero]); (try simp only [Act.put]); (try simp only [List.setIfInBounds_toArray]); (try simp only [List.set_cons_succ]); (try simp only [List.set_cons_zero])
    refine wpAnyH_ready (rs := [2]) (by kernel_rfl) (by simp) ?_
    refine AllReadyH.cons (o := _) rfl (fun K hK => ?_) AllReadyH.nil
    rw [if_pos (by rfl)]
    go_simp
    refine hK.out _ _ (Zd.alloc (.cells #[.int .i64 0, .int .i64 1, .int .i64 2, .int .i64 3, .int .i64 4] 2)).at.1 (fun hS => ?_)
    clear hK K
    (try simp only [List.getElem_toArray]); (try simp only [List.getElem_cons_succ]); (try simp only [List.getElem_cons_zero]); (try simp only [Act.put]); (try simp only [List.setIfInBounds_toArray]); (try simp only [List.set_cons_succ]); (try simp only [List.set_cons_zero])
    refine wpAnyH_ready (rs := [3]) (by kernel_rfl) (by simp) ?_
    refine AllReadyH.cons (o := _) rfl (fun K hK => ?_) AllReadyH.nil
    rw [if_pos (by rfl)]
    go_simp
    go_at_call 29
    refine (spec_l1Pick _ a cap zs (0 + j + 1) _ [0, 1, 2, 3, 4] [w4.heap.size] _ (sd.alloc _) (by omega) (Ints.lit w4.drew _ _ 5 rfl rfl (by omega)) (by simp) (by simp) (by simp at lb ⊢; omega)).mono ?_
    rintro e w11 ⟨oo, rfl, -, s11, o11⟩
    have O11 : Off [w.heap.size + 1] w4.drew w11 := ((Off.refl _ _).alloc _).trans o11
    have z11 := O11.size
    have Z11 := Zd.off O11 (by simp; omega)
    dsimp only
    refine hK.out _ _ Z11.at.1 (fun hS => ?_)
    clear hK K
    (try simp only [List.getElem_toArray]); (try simp only [List.getElem_cons_succ]); (try simp only [List.getElem_cons_zero]); (try simp only [Act.put]); (try simp only [List.setIfInBounds_toArray]); (try simp only [List.set_cons_succ]); (try simp only [List.set_cons_zero])
    refine wpAnyH_ready (rs := [6]) (by kernel_rfl) (by simp) ?_
    refine AllReadyH.cons (o := _) rfl (fun K hK => ?_) AllReadyH.nil
    rw [if_pos (by rfl)]
    go_simp
    go_at_call 30
    refine (spec_l1Next _ a cap zs (0 + j + 1 + 1) 256 _ s11 (by omega) (by omega)).mono ?_
    rintro e w12 ⟨v1, rfl, -, s12, o12⟩
    have O12 := O11.trans o12
    have Z12 := Zd.off O12 (by simp; omega)
    have z12 := o12.size
    dsimp only
    refine hK.out _ _ Z12.at.1 (fun hS => ?_)
    clear hK K
    (try simp only [List.getElem_toArray]); (try simp only [List.getElem_cons_succ]); (try simp only [List.getElem_cons_zero]); (try simp only [Act.put]); (try simp only [List.setIfInBounds_toArray]); (try simp only [List.set_cons_succ]); (try simp only [List.set_cons_zero])
    refine wpAnyH_ready (rs := [8]) (by kernel_rfl) (by simp) ?_
    refine AllReadyH.cons (o := _) rfl (fun K hK => ?_) AllReadyH.nil
    rw [if_pos (by rfl)]
    go_simp
    go_at_call 30
    refine (spec_l1Next _ a cap zs (0 + j + 1 + 1 + 1) 256 _ s12 (by omega) (by omega)).mono ?_
    rintro e w13 ⟨v2, rfl, -, s13, o13⟩
    have O13 := O12.trans o13
    have Z13 := Zd.off O13 (by simp; omega)
    have z13 := o13.size
    have l13 := s13.blk.lt
    dsimp only
    refine hK.out _ _ Z13.at.1 (fun hS => ?_)
    clear hK K
    (try simp only [List.getElem_toArray]); (try simp only [List.getElem_cons_succ]); (try simp only [List.getElem_cons_zero]); (try simp only [Act.put]); (try simp only [List.setIfInBounds_toArray]); (try simp only [List.set_cons_succ]); (try simp only [List.set_cons_zero])
    refine wpAnyH_ready (rs := [9]) (by kernel_rfl) (by simp) ?_
    refine AllReadyH.cons (o := _) rfl (fun K hK => ?_) AllReadyH.nil
    rw [if_pos (by rfl)]
    go_simp
    refine hK.out _ _ (Z13.alloc (.cells #[.int .i64 v1, .int .i64 v2, .int .i64 256] 2)).at.1 (fun hS => ?_)
    clear hK K
    (try simp only [List.getElem_toArray]); (try simp only [List.getElem_cons_succ]); (try simp only [List.getElem_cons_zero]); (try simp only [Act.put]); (try simp only [List.setIfInBounds_toArray]); (try simp only [List.set_cons_succ]); (try simp only [List.set_cons_zero])
    refine wpAnyH_ready (rs := [10]) (by kernel_rfl) (by simp) ?_
    refine AllReadyH.cons (o := _) rfl (fun K hK => ?_) AllReadyH.nil
    rw [if_pos (by rfl)]
    go_simp
    go_at_call 29
    refine (spec_l1Pick _ a cap zs (0 + j + 1 + 1 + 1 + 1) _ [v1, v2, 256] [w13.heap.size] _ (s13.alloc _) (by omega) (Ints.lit w13 _ _ 3 rfl rfl (by omega)) (by simp) (by simp) (by simp; omega)).mono ?_
    rintro e w14 ⟨vv, rfl, -, s14, o14⟩
    have O14 : Off [w.heap.size + 1] w4.drew w14 := (O13.alloc _).trans o14
    have Z14 := Zd.off O14 (by simp; omega)
    have Y14 := Yd.off O14 (by simp)
    have B14 := Bd.trans (O14.toBelow Bd.size (by simp))
    dsimp only
    refine hK.out _ _ Z14.at.1 (fun hS => ?_)
    clear hK K
    (try simp only [List.getElem_toArray]); (try simp only [List.getElem_cons_succ]); (try simp only [List.getElem_cons_zero]); (try simp only [Act.put]); (try simp only [List.setIfInBounds_toArray]); (try simp only [List.set_cons_succ]); (try simp only [List.set_cons_zero])
    refine wpAnyH_ready (rs := [11]) (by kernel_rfl) (by simp) ?_
    refine AllReadyH.cons (o := _) rfl (fun K hK => ?_) AllReadyH.nil
    refine step_store_blk rfl 33 _ _ rfl w.heap.size (#[.slice p0 x.xTape.length c0, .slice p1 x.xUsed.length c1, .int .i64 x.xSent, .slice p2 x.xHeard.length c2, .int .i64 x.xCheat.xWho, .int .i64 x.xCheat.xAt, .int .i64 x.xCheat.xBy, .bool x.xCheat.xCry, .bool x.xQuarrel.xSome, .int .i64 x.xQuarrel.xFrom, .int .i64 x.xQuarrel.xCheck, .int .i64 x.xQuarrel.xTo, .int .i64 x.xQuarrel.xTold, .int .i64 x.xQuarrel.xHeard, .int .i64 x.xQuarrel.xOther, .int .i64 x.xQuarrel.xVowed]) rfl rfl Y14 rfl (by kernel_rfl) (by kernel_rfl) ?_
    intro w20 Y9 O9
    have Z9 := Z14.off O9 (by simp; omega)
    refine hK.out _ _ Z9.at.1 (fun hS => ?_)
    clear hK K
    (try simp only [List.getElem_toArray]); (try simp only [List.getElem_cons_succ]); (try simp only [List.getElem_cons_zero]); (try simp only [Act.put]); (try simp only [List.setIfInBounds_toArray]); (try simp only [List.set_cons_succ]); (try simp only [List.set_cons_zero])
    refine wpAnyH_take (i := 12) (v := .int .i64 oo) rfl (by kernel_rfl) (by kernel_rfl) (by kernel_rfl) (fun _ _ _ h => h) (Or.inl ⟨by rfl, ?_⟩) hS ?_
    · intro w' hSw
      go_simp
    (try simp only [List.getElem_toArray]); (try simp only [List.getElem_cons_succ]); (try simp only [List.getElem_cons_zero]); (try simp only [Act.put]); (try simp only [List.setIfInBounds_toArray]); (try simp only [List.set_cons_succ]); (try simp only [List.set_cons_zero])
    refine wpAnyH_take (i := 13) (v := .int .i64 vv) rfl (by kernel_rfl) (by kernel_rfl) (by kernel_rfl) (fun _ _ _ h => h) (Or.inl ⟨by rfl, ?_⟩) hS ?_
    · intro w' hSw
      go_simp
    (try simp only [List.getElem_toArray]); (try simp only [List.getElem_cons_succ]); (try simp only [List.getElem_cons_zero]); (try simp only [Act.put]); (try simp only [List.setIfInBounds_toArray]); (try simp only [List.set_cons_succ]); (try simp only [List.set_cons_zero])
    refine wpAnyH_done (by kernel_rfl) ?_ _
    clear hS
    have ya := Y9.at.1
    have B9 : Below w.heap.size w w20 := B14.trans (O9.toBelow B14.size (by simp))
    have O14 : Off [w.heap.size + 1] w4 w14 := ⟨O14.os, O14.tape, O14.output, O14.size, O14.block⟩
    go_wp2
    exact bodyPost_ret (v := .tuple #[.agg #[.slice p0 x.xTape.length c0, .slice p1 x.xUsed.length c1, .int .i64 x.xSent, .slice p2 x.xHeard.length c2, .int .i64 x.xCheat.xWho, .int .i64 x.xCheat.xAt, .int .i64 x.xCheat.xBy, .bool x.xCheat.xCry, .bool x.xQuarrel.xSome, .int .i64 x.xQuarrel.xFrom, .int .i64 x.xQuarrel.xCheck, .int .i64 x.xQuarrel.xTo, .int .i64 x.xQuarrel.xTold, .int .i64 x.xQuarrel.xHeard, .int .i64 x.xQuarrel.xOther, .int .i64 x.xQuarrel.xVowed], .int .i64 oo, .int .i64 vv]) (by simp [results, Try.results7, go_sem, ya]) rfl ⟨p0, c0, p1, c1, p2, c2, x, oo, vv, rfl, fun V cs o hz => HR.out V ([w.heap.size + 1, g, w.heap.size] ++ cs) (((show Off [w.heap.size + 1, g, w.heap.size] _ w20 from ((Q4.trans (O14.mono (by simp))).trans (O9.mono (by simp)))).mono (fun y hy => List.mem_append_left _ hy)).trans (o.mono (fun y hy => List.mem_append_right _ hy))) (fun z hm => by rcases List.mem_append.1 hm with h | h; (simp at h; omega); (have := hz z h; omega)), HF.out, B9⟩
  · have tkB : True := trivial
    clear HR HF Q4
    go_wp2_with fail
    refine (spec_l4Bent _ a cap zs (0 + j + 1) _ s4 (by omega)).mono ?_
    rintro e w5 ⟨u, rfl, y, hR, hF, ⟨j5, hj5, s5⟩, o5⟩
    obtain ⟨p07, c07, p17, c17, p27, c27, rfl, -⟩ := hR w5 [] (Off.refl _ _) (by simp)
    have HF : Hid (Fit y) := hF
    have HR := (show Hid _ from hR)
    have Y5 := Y4.off o5 (by simp)
    have Z5 := Z4.off o5 (by simp; omega)
    have z5 := o5.size
    have B5 := B4.trans (o5.toBelow B4.size (by simp))
    clear hR hF Y4 Z4 B4 s4 o5
    go_wp2_with (refine wpList_store_blk rfl 33 _ _ rfl g (#[.slice p07 y.xTape.length c07, .slice p17 y.xUsed.length c17, .int .i64 y.xSent, .slice p27 y.xHeard.length c27, .int .i64 y.xCheat.xWho, .int .i64 y.xCheat.xAt, .int .i64 y.xCheat.xBy, .bool y.xCheat.xCry, .bool y.xQuarrel.xSome, .int .i64 y.xQuarrel.xFrom, .int .i64 y.xQuarrel.xCheck, .int .i64 y.xQuarrel.xTo, .int .i64 y.xQuarrel.xTold, .int .i64 y.xQuarrel.xHeard, .int .i64 y.xQuarrel.xOther, .int .i64 y.xQuarrel.xVowed]) rfl rfl Z5 rfl (by kernel_rfl) (by kernel_rfl) ?_; intro w6 Z6 O6)
    have Y6 := Y5.off O6 (by simp; omega)
    have z6 := O6.size
    have B6 : Below w.heap.size w w6 := B5.trans (O6.toBelow B5.size (by simp; omega))
    have s6 := s5.off O6 (fun y hy => by simp at hy; omega)
    clear Y5 Z5 B5 s5
    have Zd := Z6.drew
    have Yd := Y6.drew
    have sd : Src w6.drew (w.heap.size + 1) a cap zs (0 + j + 1 + j5) := s6.keep (Below.refl _ _).drew
    have Bd := B6.drew
    have lb := sd.blk.lt
    have lgd := Zd.lt
    have lyd := Yd.lt
    clear Z6 Y6 s6 B6
    go_wp2_with fail
    refine wp_region_held (S := fun V => (∀ o, V.cell? ⟨g, o, none⟩ = (#[.slice p07 y.xTape.length c07, .slice p17 y.xUsed.length c17, .int .i64 y.xSent, .slice p27 y.xHeard.length c27, .int .i64 y.xCheat.xWho, .int .i64 y.xCheat.xAt, .int .i64 y.xCheat.xBy, .bool y.xCheat.xCry, .bool y.xQuarrel.xSome, .int .i64 y.xQuarrel.xFrom, .int .i64 y.xQuarrel.xCheck, .int .i64 y.xQuarrel.xTo, .int .i64 y.xQuarrel.xTold, .int .i64 y.xQuarrel.xHeard, .int .i64 y.xQuarrel.xOther, .int .i64 y.xQuarrel.xVowed] : Array Value)[o]?)) (by kernel_rfl) ?_
    try (change wpAnyH _ _ _ _ _ _ _ _ (World.drew _))
    have hS : (∀ o, w6.drew.cell? ⟨g, o, none⟩ = (#[.slice p07 y.xTape.length c07, .slice p17 y.xUsed.length c17, .int .i64 y.xSent, .slice p27 y.xHeard.length c27, .int .i64 y.xCheat.xWho, .int .i64 y.xCheat.xAt, .int .i64 y.xCheat.xBy, .bool y.xCheat.xCry, .bool y.xQuarrel.xSome, .int .i64 y.xQuarrel.xFrom, .int .i64 y.xQuarrel.xCheck, .int .i64 y.xQuarrel.xTo, .int .i64 y.xQuarrel.xTold, .int .i64 y.xQuarrel.xHeard, .int .i64 y.xQuarrel.xOther, .int .i64 y.xQuarrel.xVowed] : Array Value)[o]?) := Zd.at.1
    refine wpAnyH_take (i := 0) (v := .agg #[.slice p07 y.xTape.length c07, .slice p17 y.xUsed.length c17, .int .i64 y.xSent, .slice p27 y.xHeard.length c27, .int .i64 y.xCheat.xWho, .int .i64 y.xCheat.xAt, .int .i64 y.xCheat.xBy, .bool y.xCheat.xCry, .bool y.xQuarrel.xSome, .int .i64 y.xQuarrel.xFrom, .int .i64 y.xQuarrel.xCheck, .int .i64 y.xQuarrel.xTo, .int .i64 y.xQuarrel.xTold, .int .i64 y.xQuarrel.xHeard, .int .i64 y.xQuarrel.xOther, .int .i64 y.xQuarrel.xVowed]) rfl (by kernel_rfl) (by kernel_rfl) (by kernel_rfl) (fun _ _ _ h => h) (Or.inl ⟨by rfl, ?_⟩) hS ?_
    · intro w' hSw
      go_simp
    (try simp only [List.getElem_toArray]); (try simp only [List.getElem_cons_succ]); (try simp only [List.getElem_cons_zero]); (try simp only [Act.put]); (try simp only [List.setIfInBounds_toArray]); (try simp only [List.set_cons_succ]); (try simp only [List.set_cons_zero])
    refine wpAnyH_take (i := 1) (v := .pointer (some ⟨w.heap.size + 1, 0, none⟩)) rfl (by kernel_rfl) (by kernel_rfl) (by kernel_rfl) (fun _ _ _ h => h) (Or.inl ⟨by rfl, ?_⟩) hS ?_
    · intro w' hSw
      go_simp
    (try simp only [List.getElem_toArray]); (try simp only [List.getElem_cons_succ]); (try simp only [List.getElem_cons_zero]); (try simp only [Act.put]); (try simp only [List.setIfInBounds_toArray]); (try simp only [List.set_cons_succ]); (try simp only [List.set_cons_zero])
    refine wpAnyH_take (i := 4) (v := .pointer (some ⟨w.heap.size + 1, 0, none⟩)) rfl (by kernel_rfl) (by kernel_rfl) (by kernel_rfl) (fun _ _ _ h => h) (Or.inl ⟨by rfl, ?_⟩) hS ?_
    · intro w' hSw
      go_simp
    (try simp only [List.getElem_toArray]); (try simp only [List.getElem_cons_succ]); (try simp only [List.getElem_cons_zero]); (try simp only [Act.put]); (try simp only [List.setIfInBounds_toArray]); (try simp only [List.set_cons_succ]); (try simp only [List.set_cons_zero])
    refine wpAnyH_take (i := 5) (v := .pointer (some ⟨w.heap.size + 1, 0, none⟩)) rfl (by kernel_rfl) (by kernel_rfl) (by kernel_rfl) (fun _ _ _ h => h) (Or.inl ⟨by rfl, ?_⟩) hS ?_
    · intro w' hSw
      go_simp
    (try simp only [List.getElem_toArray]); (try simp only [List.getElem_cons_succ]); (try simp only [List.getElem_cons_zero]); (try simp only [Act.put]); (try simp only [List.setIfInBounds_toArray]); (try simp only [List.set_cons_succ]); (try simp only [List.set_cons_zero])
    refine wpAnyH_take (i := 7) (v := .pointer (some ⟨w.heap.size + 1, 0, none⟩)) rfl (by kernel_rfl) (by kernel_rfl) (by kernel_rfl) (fun _ _ _ h => h) (Or.inl ⟨by rfl, ?_⟩) hS ?_
    · intro w' hSw
      go_simp
    (try simp only [List.getElem_toArray]); (try simp only [List.getElem_cons_succ]); (try simp only [List.getElem_cons_zero]); (try simp only [Act.put]); (try simp only [List.setIfInBounds_toArray]); (try simp only [List.set_cons_succ]); (try simp only [List.set_cons_zero])
    refine wpAnyH_ready (rs := [2]) (by kernel_rfl) (by simp) ?_
    refine AllReadyH.cons (o := _) rfl (fun K hK => ?_) AllReadyH.nil
    rw [if_pos (by rfl)]
    go_simp
    refine hK.out _ _ (Zd.alloc (.cells #[.int .i64 0, .int .i64 1, .int .i64 2, .int .i64 3, .int .i64 4] 2)).at.1 (fun hS => ?_)
    clear hK K
    (try simp only [List.getElem_toArray]); (try simp only [List.getElem_cons_succ]); (try simp only [List.getElem_cons_zero]); (try simp only [Act.put]); (try simp only [List.setIfInBounds_toArray]); (try simp only [List.set_cons_succ]); (try simp only [List.set_cons_zero])
    refine wpAnyH_ready (rs := [3]) (by kernel_rfl) (by simp) ?_
    refine AllReadyH.cons (o := _) rfl (fun K hK => ?_) AllReadyH.nil
    rw [if_pos (by rfl)]
    go_simp
    go_at_call 29
    refine (spec_l1Pick _ a cap zs (0 + j + 1 + j5) _ [0, 1, 2, 3, 4] [w6.heap.size] _ (sd.alloc _) (by omega) (Ints.lit w6.drew _ _ 5 rfl rfl (by omega)) (by simp) (by simp) (by simp at lb ⊢; omega)).mono ?_
    rintro e w11 ⟨oo, rfl, -, s11, o11⟩
    have O11 : Off [w.heap.size + 1] w6.drew w11 := ((Off.refl _ _).alloc _).trans o11
    have z11 := O11.size
    have Z11 := Zd.off O11 (by simp; omega)
    dsimp only
    refine hK.out _ _ Z11.at.1 (fun hS => ?_)
    clear hK K
    (try simp only [List.getElem_toArray]); (try simp only [List.getElem_cons_succ]); (try simp only [List.getElem_cons_zero]); (try simp only [Act.put]); (try simp only [List.setIfInBounds_toArray]); (try simp only [List.set_cons_succ]); (try simp only [List.set_cons_zero])
    refine wpAnyH_ready (rs := [6]) (by kernel_rfl) (by simp) ?_
    refine AllReadyH.cons (o := _) rfl (fun K hK => ?_) AllReadyH.nil
    rw [if_pos (by rfl)]
    go_simp
    go_at_call 30
    refine (spec_l1Next _ a cap zs (0 + j + 1 + j5 + 1) 256 _ s11 (by omega) (by omega)).mono ?_
    rintro e w12 ⟨v1, rfl, -, s12, o12⟩
    have O12 := O11.trans o12
    have Z12 := Zd.off O12 (by simp; omega)
    have z12 := o12.size
    dsimp only
    refine hK.out _ _ Z12.at.1 (fun hS => ?_)
    clear hK K
    (try simp only [List.getElem_toArray]); (try simp only [List.getElem_cons_succ]); (try simp only [List.getElem_cons_zero]); (try simp only [Act.put]); (try simp only [List.setIfInBounds_toArray]); (try simp only [List.set_cons_succ]); (try simp only [List.set_cons_zero])
    refine wpAnyH_ready (rs := [8]) (by kernel_rfl) (by simp) ?_
    refine AllReadyH.cons (o := _) rfl (fun K hK => ?_) AllReadyH.nil
    rw [if_pos (by rfl)]
    go_simp
    go_at_call 30
    refine (spec_l1Next _ a cap zs (0 + j + 1 + j5 + 1 + 1) 256 _ s12 (by omega) (by omega)).mono ?_
    rintro e w13 ⟨v2, rfl, -, s13, o13⟩
    have O13 := O12.trans o13
    have Z13 := Zd.off O13 (by simp; omega)
    have z13 := o13.size
    have l13 := s13.blk.lt
    dsimp only
    refine hK.out _ _ Z13.at.1 (fun hS => ?_)
    clear hK K
    (try simp only [List.getElem_toArray]); (try simp only [List.getElem_cons_succ]); (try simp only [List.getElem_cons_zero]); (try simp only [Act.put]); (try simp only [List.setIfInBounds_toArray]); (try simp only [List.set_cons_succ]); (try simp only [List.set_cons_zero])
    refine wpAnyH_ready (rs := [9]) (by kernel_rfl) (by simp) ?_
    refine AllReadyH.cons (o := _) rfl (fun K hK => ?_) AllReadyH.nil
    rw [if_pos (by rfl)]
    go_simp
    refine hK.out _ _ (Z13.alloc (.cells #[.int .i64 v1, .int .i64 v2, .int .i64 256] 2)).at.1 (fun hS => ?_)
    clear hK K
    (try simp only [List.getElem_toArray]); (try simp only [List.getElem_cons_succ]); (try simp only [List.getElem_cons_zero]); (try simp only [Act.put]); (try simp only [List.setIfInBounds_toArray]); (try simp only [List.set_cons_succ]); (try simp only [List.set_cons_zero])
    refine wpAnyH_ready (rs := [10]) (by kernel_rfl) (by simp) ?_
    refine AllReadyH.cons (o := _) rfl (fun K hK => ?_) AllReadyH.nil
    rw [if_pos (by rfl)]
    go_simp
    go_at_call 29
    refine (spec_l1Pick _ a cap zs (0 + j + 1 + j5 + 1 + 1 + 1) _ [v1, v2, 256] [w13.heap.size] _ (s13.alloc _) (by omega) (Ints.lit w13 _ _ 3 rfl rfl (by omega)) (by simp) (by simp) (by simp; omega)).mono ?_
    rintro e w14 ⟨vv, rfl, -, s14, o14⟩
    have O14 : Off [w.heap.size + 1] w6.drew w14 := (O13.alloc _).trans o14
    have Z14 := Zd.off O14 (by simp; omega)
    have Y14 := Yd.off O14 (by simp)
    have B14 := Bd.trans (O14.toBelow Bd.size (by simp))
    dsimp only
    refine hK.out _ _ Z14.at.1 (fun hS => ?_)
    clear hK K
    (try simp only [List.getElem_toArray]); (try simp only [List.getElem_cons_succ]); (try simp only [List.getElem_cons_zero]); (try simp only [Act.put]); (try simp only [List.setIfInBounds_toArray]); (try simp only [List.set_cons_succ]); (try simp only [List.set_cons_zero])
    refine wpAnyH_ready (rs := [11]) (by kernel_rfl) (by simp) ?_
    refine AllReadyH.cons (o := _) rfl (fun K hK => ?_) AllReadyH.nil
    refine step_store_blk rfl 33 _ _ rfl w.heap.size (#[.slice p07 y.xTape.length c07, .slice p17 y.xUsed.length c17, .int .i64 y.xSent, .slice p27 y.xHeard.length c27, .int .i64 y.xCheat.xWho, .int .i64 y.xCheat.xAt, .int .i64 y.xCheat.xBy, .bool y.xCheat.xCry, .bool y.xQuarrel.xSome, .int .i64 y.xQuarrel.xFrom, .int .i64 y.xQuarrel.xCheck, .int .i64 y.xQuarrel.xTo, .int .i64 y.xQuarrel.xTold, .int .i64 y.xQuarrel.xHeard, .int .i64 y.xQuarrel.xOther, .int .i64 y.xQuarrel.xVowed]) rfl rfl Y14 rfl (by kernel_rfl) (by kernel_rfl) ?_
    intro w20 Y9 O9
    have Z9 := Z14.off O9 (by simp; omega)
    refine hK.out _ _ Z9.at.1 (fun hS => ?_)
    clear hK K
    (try simp only [List.getElem_toArray]); (try simp only [List.getElem_cons_succ]); (try simp only [List.getElem_cons_zero]); (try simp only [Act.put]); (try simp only [List.setIfInBounds_toArray]); (try simp only [List.set_cons_succ]); (try simp only [List.set_cons_zero])
    refine wpAnyH_take (i := 12) (v := .int .i64 oo) rfl (by kernel_rfl) (by kernel_rfl) (by kernel_rfl) (fun _ _ _ h => h) (Or.inl ⟨by rfl, ?_⟩) hS ?_
    · intro w' hSw
      go_simp
    (try simp only [List.getElem_toArray]); (try simp only [List.getElem_cons_succ]); (try simp only [List.getElem_cons_zero]); (try simp only [Act.put]); (try simp only [List.setIfInBounds_toArray]); (try simp only [List.set_cons_succ]); (try simp only [List.set_cons_zero])
    refine wpAnyH_take (i := 13) (v := .int .i64 vv) rfl (by kernel_rfl) (by kernel_rfl) (by kernel_rfl) (fun _ _ _ h => h) (Or.inl ⟨by rfl, ?_⟩) hS ?_
    · intro w' hSw
      go_simp
    (try simp only [List.getElem_toArray]); (try simp only [List.getElem_cons_succ]); (try simp only [List.getElem_cons_zero]); (try simp only [Act.put]); (try simp only [List.setIfInBounds_toArray]); (try simp only [List.set_cons_succ]); (try simp only [List.set_cons_zero])
    refine wpAnyH_done (by kernel_rfl) ?_ _
    clear hS
    have ya := Y9.at.1
    have B9 : Below w.heap.size w w20 := B14.trans (O9.toBelow B14.size (by simp))
    have O14 : Off [w.heap.size + 1] w6 w14 := ⟨O14.os, O14.tape, O14.output, O14.size, O14.block⟩
    go_wp2
    exact bodyPost_ret (v := .tuple #[.agg #[.slice p07 y.xTape.length c07, .slice p17 y.xUsed.length c17, .int .i64 y.xSent, .slice p27 y.xHeard.length c27, .int .i64 y.xCheat.xWho, .int .i64 y.xCheat.xAt, .int .i64 y.xCheat.xBy, .bool y.xCheat.xCry, .bool y.xQuarrel.xSome, .int .i64 y.xQuarrel.xFrom, .int .i64 y.xQuarrel.xCheck, .int .i64 y.xQuarrel.xTo, .int .i64 y.xQuarrel.xTold, .int .i64 y.xQuarrel.xHeard, .int .i64 y.xQuarrel.xOther, .int .i64 y.xQuarrel.xVowed], .int .i64 oo, .int .i64 vv]) (by simp [results, Try.results7, go_sem, ya]) rfl ⟨p07, c07, p17, c17, p27, c27, y, oo, vv, rfl, fun V cs o hz => HR.out V ([w.heap.size + 1, g, w.heap.size] ++ cs) (((show Off [w.heap.size + 1, g, w.heap.size] _ w20 from (((O6.mono (by simp)).trans (O14.mono (by simp))).trans (O9.mono (by simp)))).mono (fun y hy => List.mem_append_left _ hy)).trans (o.mono (fun y hy => List.mem_append_right _ hy))) (fun z hm => by rcases List.mem_append.1 hm with h | h; (simp at h; omega); (have := hz z h; omega)), HF.out, B9⟩
end Go.Proofs.Ytbmemdgeohnpnac
