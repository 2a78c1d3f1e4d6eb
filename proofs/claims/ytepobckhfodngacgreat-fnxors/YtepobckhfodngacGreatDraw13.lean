/-
  Draws of chapter 5: two bits in the ring.
-/
import Derived.Test.YtepobckhfodngacGreatDraw10
import Derived.Test.YtepobckhfodngacGreatDraw3b
import Derived.Test.YtepobckhfodngacGreatDraw3
namespace Go.Proofs.YtepobckhfodngacGreat
open Go.ChangeShapes Go.WideShapes Go.ChangeAt Go.RowKit
set_option linter.unusedVariables false

theorem Off.mixD {bs cs : List Nat} {w w1 w2 : World} (h : Off bs w w1) (k : Off cs w1 w2) (hc : ∀ y ∈ cs, y ∈ bs ∨ w.heap.size ≤ y) : Off bs w w2 :=
  ⟨k.os.trans h.os, k.tape.trans h.tape, k.output.trans h.output, Nat.le_trans h.size k.size, fun i hi hn => (k.block i (Nat.lt_of_lt_of_le hi h.size) (fun hm => by rcases hc i hm with h' | h'; (exact hn h'); omega)).trans (h.block i hi hn)⟩
set_option maxHeartbeats 8000000 in
set_option maxRecDepth 100000 in
theorem spec_DrawXorBits (a : Option Addr) (cap : Nat) (zs : List Int) (w : World) (hr : Reads w .u8 (.slice a zs.length cap) zs) (hl : zs.length ≤ 1048576) (hb : ∀ i, 0 ≤ zs.getD i 0 ∧ zs.getD i 0 ≤ 255) :
    Calls Tryz.prog 7 #[.slice a zs.length cap] w fun e w' => ∃ (u : Value) (x : MNet) (v v' : Value) (A B : MMirror), e = .returned (.tuple #[u, v, v']) ∧ RdNet w' u x ∧ Fit x ∧ RdMirror w' v A ∧ RdMirror w' v' B ∧ Below w.heap.size w w' := by
  have Y0 : Blk (((w.alloc (.cells #[.slice none 0 0, .slice none 0 0, .int .i64 0, .slice none 0 0, .int .i64 0, .int .i64 0, .int .i64 0, .bool false, .bool false, .int .i64 0, .int .i64 0, .int .i64 0, .int .i64 0, .int .i64 0, .int .i64 0, .int .i64 0] 33)).alloc (.cells #[.int .i64 0, .slice none 0 0] 35)).alloc (.cells #[.int .i64 0, .slice none 0 0] 35)) w.heap.size 33 #[.slice none 0 0, .slice none 0 0, .int .i64 0, .slice none 0 0, .int .i64 0, .int .i64 0, .int .i64 0, .bool false, .bool false, .int .i64 0, .int .i64 0, .int .i64 0, .int .i64 0, .int .i64 0, .int .i64 0, .int .i64 0] := ((Blk.new w _ _).alloc _).alloc _
  have U0 : Blk (((w.alloc (.cells #[.slice none 0 0, .slice none 0 0, .int .i64 0, .slice none 0 0, .int .i64 0, .int .i64 0, .int .i64 0, .bool false, .bool false, .int .i64 0, .int .i64 0, .int .i64 0, .int .i64 0, .int .i64 0, .int .i64 0, .int .i64 0] 33)).alloc (.cells #[.int .i64 0, .slice none 0 0] 35)).alloc (.cells #[.int .i64 0, .slice none 0 0] 35)) (w.heap.size + 1) 35 #[.int .i64 0, .slice none 0 0] := by simpa using (Blk.new (w.alloc (.cells #[.slice none 0 0, .slice none 0 0, .int .i64 0, .slice none 0 0, .int .i64 0, .int .i64 0, .int .i64 0, .bool false, .bool false, .int .i64 0, .int .i64 0, .int .i64 0, .int .i64 0, .int .i64 0, .int .i64 0, .int .i64 0] 33)) 35 #[.int .i64 0, .slice none 0 0]).alloc (.cells #[.int .i64 0, .slice none 0 0] 35)
  have V0 : Blk (((w.alloc (.cells #[.slice none 0 0, .slice none 0 0, .int .i64 0, .slice none 0 0, .int .i64 0, .int .i64 0, .int .i64 0, .bool false, .bool false, .int .i64 0, .int .i64 0, .int .i64 0, .int .i64 0, .int .i64 0, .int .i64 0, .int .i64 0] 33)).alloc (.cells #[.int .i64 0, .slice none 0 0] 35)).alloc (.cells #[.int .i64 0, .slice none 0 0] 35)) (w.heap.size + 2) 35 #[.int .i64 0, .slice none 0 0] := by simpa using Blk.new ((w.alloc (.cells #[.slice none 0 0, .slice none 0 0, .int .i64 0, .slice none 0 0, .int .i64 0, .int .i64 0, .int .i64 0, .bool false, .bool false, .int .i64 0, .int .i64 0, .int .i64 0, .int .i64 0, .int .i64 0, .int .i64 0, .int .i64 0] 33)).alloc (.cells #[.int .i64 0, .slice none 0 0] 35)) 35 #[.int .i64 0, .slice none 0 0]
  have B0 : Below w.heap.size w (((w.alloc (.cells #[.slice none 0 0, .slice none 0 0, .int .i64 0, .slice none 0 0, .int .i64 0, .int .i64 0, .int .i64 0, .bool false, .bool false, .int .i64 0, .int .i64 0, .int .i64 0, .int .i64 0, .int .i64 0, .int .i64 0, .int .i64 0] 33)).alloc (.cells #[.int .i64 0, .slice none 0 0] 35)).alloc (.cells #[.int .i64 0, .slice none 0 0] 35)) := (by repeat (first | exact Below.refl _ _ | refine Below.drew ?_ | refine below_drewN ?_ _ | refine Below.setCell ?_ (by first | omega | (simp; done) | (simp; omega)) _ | refine Below.alloc ?_ (by first | omega | (simp; done) | (simp; omega)) _))
  have hr0 := hr.below B0
  have hz0 : (((w.alloc (.cells #[.slice none 0 0, .slice none 0 0, .int .i64 0, .slice none 0 0, .int .i64 0, .int .i64 0, .int .i64 0, .bool false, .bool false, .int .i64 0, .int .i64 0, .int .i64 0, .int .i64 0, .int .i64 0, .int .i64 0, .int .i64 0] 33)).alloc (.cells #[.int .i64 0, .slice none 0 0] 35)).alloc (.cells #[.int .i64 0, .slice none 0 0] 35)).heap.size = w.heap.size + 3 := by simp
  clear hr
  go_enter Tryz.func7, Tryz.ntmps7
  go_wp2_with fail
  refine (spec_l1Source a cap zs _ hr0 hl hb).mono ?_
  rintro e w1 ⟨rfl, s1, b1⟩
  rw [hz0] at s1 ⊢
  have Y1 := Y0.keep b1
  have U1 := U0.keep b1
  have V1 := V0.keep b1
  have B1 := B0.trans (b1.mono B0.size)
  have l1 := s1.blk.lt
  clear Y0 U0 V0 B0 hr0 b1 hz0
  go_wp2_with fail
  refine (spec_l5Net _ a cap zs 0 _ s1 (by omega)).mono ?_
  rintro e w2 ⟨u, rfl, x, hR, hF, ⟨j, hj, s2⟩, o2⟩
  obtain ⟨p0, c0, p1, c1, p2, c2, rfl, -⟩ := hR w2 [] (Off.refl _ _) (by simp)
  have HF : Hid (Fit x) := hF
  have HRN : Hid (∀ V cs, Off cs w2 V → (∀ z ∈ cs, z < w1.heap.size) → RdNet V (.agg #[.slice p0 x.xTape.length c0, .slice p1 x.xUsed.length c1, .int .i64 x.xSent, .slice p2 x.xHeard.length c2, .int .i64 x.xCheat.xWho, .int .i64 x.xCheat.xAt, .int .i64 x.xCheat.xBy, .bool x.xCheat.xCry, .bool x.xQuarrel.xSome, .int .i64 x.xQuarrel.xFrom, .int .i64 x.xQuarrel.xCheck, .int .i64 x.xQuarrel.xTo, .int .i64 x.xQuarrel.xTold, .int .i64 x.xQuarrel.xHeard, .int .i64 x.xQuarrel.xOther, .int .i64 x.xQuarrel.xVowed]) x) := hR
  have z2 := o2.size
  have Y2 := Y1.off o2 (by simp)
  have U2 := U1.off o2 (by simp)
  have V2 := V1.off o2 (by simp)
  have B2 : Below w.heap.size w w2 := B1.trans (o2.toBelow B1.size (by simp))
  clear hR hF Y1 U1 V1 B1 o2 s1
  obtain ⟨bS, hbS⟩ : ∃ n, w.heap.size + 3 = n := ⟨_, rfl⟩
  rw [hbS] at s2 l1 ⊢
  have Zn := Blk.new w2 33 #[.slice none 0 0, .slice none 0 0, .int .i64 0, .slice none 0 0, .int .i64 0, .int .i64 0, .int .i64 0, .bool false, .bool false, .int .i64 0, .int .i64 0, .int .i64 0, .int .i64 0, .int .i64 0, .int .i64 0, .int .i64 0]
  go_wp2_with (refine wpList_store_blk rfl 33 _ _ rfl w2.heap.size (#[.slice p0 x.xTape.length c0, .slice p1 x.xUsed.length c1, .int .i64 x.xSent, .slice p2 x.xHeard.length c2, .int .i64 x.xCheat.xWho, .int .i64 x.xCheat.xAt, .int .i64 x.xCheat.xBy, .bool x.xCheat.xCry, .bool x.xQuarrel.xSome, .int .i64 x.xQuarrel.xFrom, .int .i64 x.xQuarrel.xCheck, .int .i64 x.xQuarrel.xTo, .int .i64 x.xQuarrel.xTold, .int .i64 x.xQuarrel.xHeard, .int .i64 x.xQuarrel.xOther, .int .i64 x.xQuarrel.xVowed]) rfl rfl Zn rfl (by kernel_rfl) (by kernel_rfl) ?_; intro w3 Z3 O3)
  have P3 : Off [w2.heap.size] w2 w3 := ((Off.refl _ _).alloc _).trans O3
  have Y3 := Y2.off P3 (by simp; omega)
  have U3 := U2.off P3 (by simp; omega)
  have V3 := V2.off P3 (by simp; omega)
  have s3 := s2.off P3 (fun y hy => by simp at hy; omega)
  have Q3 : Off [bS] w2 w3 := (Off.refl _ _).mixD P3 (by simp)
  have z3 := Q3.size
  have lg := Z3.lt
  clear Zn O3 P3 Y2 U2 V2 s2
  have hg : w1.heap.size ≤ w2.heap.size := z2
  obtain ⟨g, hgg⟩ : ∃ n, w2.heap.size = n := ⟨_, rfl⟩
  rw [hgg] at Z3 lg hg ⊢
  go_wp2_with fail
  refine (spec_l3Draw _ a cap zs _ 256 _ s3 (by omega) (by omega)).mono ?_
  rintro e w4 ⟨pA, cA, xs, bA, rfl, MA, la, hbA, s4, o4⟩
  have Z4 := Z3.off o4 (by simp; omega)
  have Y4 := Y3.off o4 (by simp; omega)
  have U4 := U3.off o4 (by simp; omega)
  have V4 := V3.off o4 (by simp; omega)
  have Q4 := Q3.trans o4
  have z4 := o4.size
  have ltA := MA.lt
  have lm : (mirRows xs).length = 4 := by simp [mirRows]
  clear Z3 Y3 U3 V3 Q3 s3 o4
  have Zn := Blk.new w4 35 #[.int .i64 0, .slice none 0 0]
  go_wp2_with (refine wpList_store_blk rfl 35 _ _ rfl w4.heap.size #[.int .i64 256, .slice pA 4 cA] rfl rfl Zn rfl (by kernel_rfl) (by kernel_rfl) ?_; intro w5 T5 O5)
  have P5 : Off [w4.heap.size] w4 w5 := ((Off.refl _ _).alloc _).trans O5
  have Z5 := Z4.off P5 (by simp; omega)
  have Y5 := Y4.off P5 (by simp; omega)
  have U5 := U4.off P5 (by simp; omega)
  have V5 := V4.off P5 (by simp; omega)
  have M5 := MA.off P5 (fun y hy hm => by have := ltA y hy; simp at hm; omega)
  have lb4 := s4.blk.lt
  have s5 := s4.off P5 (fun y hy => by simp at hy; omega)
  have Q5 := Q4.mixD P5 (fun y hy => by simp at hy; right; omega)
  have z5 := P5.size
  have lgA := T5.lt
  clear Zn O5 P5 Z4 Y4 U4 V4 s4 Q4 MA
  have hgA : w3.heap.size ≤ w4.heap.size := z4
  obtain ⟨gA, hgA2⟩ : ∃ n, w4.heap.size = n := ⟨_, rfl⟩
  rw [hgA2] at T5 lgA hgA ⊢
  simp only [hgA2] at ltA
  go_wp2_with fail
  refine (spec_l3Draw _ a cap zs _ 256 _ s5 (by omega) (by omega)).mono ?_
  rintro e w6 ⟨pB, cB, ys, bB, rfl, MB, lb, hbB, s6, o6⟩
  have Z6 := Z5.off o6 (by simp; omega)
  have T6 := T5.off o6 (by simp; omega)
  have Y6 := Y5.off o6 (by simp; omega)
  have U6 := U5.off o6 (by simp; omega)
  have V6 := V5.off o6 (by simp; omega)
  have M6 := M5.off o6 (fun y hy hm => by have := hbA y hy; simp at hm; omega)
  have Q6 := Q5.trans o6
  have z6 := o6.size
  have ltB := MB.lt
  have lmb : (mirRows ys).length = 4 := by simp [mirRows]
  clear Z5 T5 Y5 U5 V5 Q5 s5 o6 M5
  have Zn := Blk.new w6 35 #[.int .i64 0, .slice none 0 0]
  go_wp2_with (refine wpList_store_blk rfl 35 _ _ rfl w6.heap.size #[.int .i64 256, .slice pB 4 cB] rfl rfl Zn rfl (by kernel_rfl) (by kernel_rfl) ?_; intro w7 R7 O7)
  have P7 : Off [w6.heap.size] w6 w7 := ((Off.refl _ _).alloc _).trans O7
  have Z7 := Z6.off P7 (by simp; omega)
  have T7 := T6.off P7 (by simp; omega)
  have Y7 := Y6.off P7 (by simp; omega)
  have U7 := U6.off P7 (by simp; omega)
  have V7 := V6.off P7 (by simp; omega)
  have M7 := M6.off P7 (fun y hy hm => by have := ltA y hy; simp at hm; omega)
  have N7 := MB.off P7 (fun y hy hm => by have := ltB y hy; simp at hm; omega)
  have lb6 := s6.blk.lt
  have s7 := s6.off P7 (fun y hy => by simp at hy; omega)
  have Q7 := Q6.mixD P7 (fun y hy => by simp at hy; right; omega)
  have z7 := P7.size
  have lgB := R7.lt
  clear Zn O7 P7 Z6 T6 Y6 U6 V6 s6 Q6 MB M6
  have hgB : w5.heap.size ≤ w6.heap.size := z6
  obtain ⟨gB, hgB2⟩ : ∃ n, w6.heap.size = n := ⟨_, rfl⟩
  rw [hgB2] at R7 lgB hgB ⊢
  simp only [hgB2] at ltB
  go_wp2_with fail
  refine (spec_l1Chance _ a cap zs _ 8 _ s7 (by omega) (by omega)).mono ?_
  rintro e w8 ⟨r, rfl, s8, o8⟩
  have Z8 := Z7.off o8 (by simp; omega)
  have T8 := T7.off o8 (by simp; omega)
  have R8 := R7.off o8 (by simp; omega)
  have Y8 := Y7.off o8 (by simp; omega)
  have U8 := U7.off o8 (by simp; omega)
  have V8 := V7.off o8 (by simp; omega)
  have M8 := M7.off o8 (fun y hy hm => by have := hbA y hy; simp at hm; omega)
  have N8 := N7.off o8 (fun y hy hm => by have := hbB y hy; simp at hm; omega)
  have Q8 := Q7.trans o8
  have z8 := o8.size
  clear Z7 T7 R7 Y7 U7 V7 M7 N7 Q7 s7 o8
  have hlt : w.heap.size + 2 < bS ∧ bS < w1.heap.size ∧ w1.heap.size ≤ g ∧ g < gA ∧ gA < gB ∧ gB < w8.heap.size := by omega
  cases r
  · as_aux_lemma =>
      have HS : Hid (∀ V, Off [w.heap.size, w.heap.size + 1, w.heap.size + 2] w8 V → (∀ o, V.cell? ⟨g, o, none⟩ = (#[.slice p0 x.xTape.length c0, .slice p1 x.xUsed.length c1, .int .i64 x.xSent, .slice p2 x.xHeard.length c2, .int .i64 x.xCheat.xWho, .int .i64 x.xCheat.xAt, .int .i64 x.xCheat.xBy, .bool x.xCheat.xCry, .bool x.xQuarrel.xSome, .int .i64 x.xQuarrel.xFrom, .int .i64 x.xQuarrel.xCheck, .int .i64 x.xQuarrel.xTo, .int .i64 x.xQuarrel.xTold, .int .i64 x.xQuarrel.xHeard, .int .i64 x.xQuarrel.xOther, .int .i64 x.xQuarrel.xVowed] : Array Value)[o]?) ∧ (∀ o, V.cell? ⟨gA, o, none⟩ = (#[.int .i64 256, .slice pA 4 cA] : Array Value)[o]?) ∧ (∀ o, V.cell? ⟨gB, o, none⟩ = (#[.int .i64 256, .slice pB 4 cB] : Array Value)[o]?)) := fun V h => ⟨(Z8.off h (by simp; omega)).at.1, (T8.off h (by simp; omega)).at.1, (R8.off h (by simp; omega)).at.1⟩
      go_wp2_with fail
      refine wp_region_held (S := fun V => (∀ o, V.cell? ⟨g, o, none⟩ = (#[.slice p0 x.xTape.length c0, .slice p1 x.xUsed.length c1, .int .i64 x.xSent, .slice p2 x.xHeard.length c2, .int .i64 x.xCheat.xWho, .int .i64 x.xCheat.xAt, .int .i64 x.xCheat.xBy, .bool x.xCheat.xCry, .bool x.xQuarrel.xSome, .int .i64 x.xQuarrel.xFrom, .int .i64 x.xQuarrel.xCheck, .int .i64 x.xQuarrel.xTo, .int .i64 x.xQuarrel.xTold, .int .i64 x.xQuarrel.xHeard, .int .i64 x.xQuarrel.xOther, .int .i64 x.xQuarrel.xVowed] : Array Value)[o]?) ∧ (∀ o, V.cell? ⟨gA, o, none⟩ = (#[.int .i64 256, .slice pA 4 cA] : Array Value)[o]?) ∧ (∀ o, V.cell? ⟨gB, o, none⟩ = (#[.int .i64 256, .slice pB 4 cB] : Array Value)[o]?)) (by kernel_rfl) ?_
      try (change wpAnyH _ _ _ _ _ _ _ _ (World.drew _))
      have P0 : Off [w.heap.size, w.heap.size + 1, w.heap.size + 2] w8 w8.drew := (Off.refl _ _).drew
      have hS := HS.out _ P0
      replace Y8 := Y8.drew
      replace U8 := U8.drew
      replace V8 := V8.drew
      refine wpAnyH_take (i := 0) (v := .agg (#[.slice p0 x.xTape.length c0, .slice p1 x.xUsed.length c1, .int .i64 x.xSent, .slice p2 x.xHeard.length c2, .int .i64 x.xCheat.xWho, .int .i64 x.xCheat.xAt, .int .i64 x.xCheat.xBy, .bool x.xCheat.xCry, .bool x.xQuarrel.xSome, .int .i64 x.xQuarrel.xFrom, .int .i64 x.xQuarrel.xCheck, .int .i64 x.xQuarrel.xTo, .int .i64 x.xQuarrel.xTold, .int .i64 x.xQuarrel.xHeard, .int .i64 x.xQuarrel.xOther, .int .i64 x.xQuarrel.xVowed])) rfl (by kernel_rfl) (by kernel_rfl) (by kernel_rfl) (fun _ _ _ h => h) (Or.inl ⟨by rfl, ?_⟩) hS ?_
      · intro w' hSw
        obtain ⟨hS0, hS1, hS2⟩ := hSw
        go_simp
      (try simp only [List.getElem_toArray]); (try simp only [List.getElem_cons_succ]); (try simp only [List.getElem_cons_zero]); (try simp only [Act.put]); (try simp only [List.setIfInBounds_toArray]); (try simp only [List.set_cons_succ]); (try simp only [List.set_cons_zero])
      refine wpAnyH_take (i := 1) (v := .agg (#[.int .i64 256, .slice pA 4 cA])) rfl (by kernel_rfl) (by kernel_rfl) (by kernel_rfl) (fun _ _ _ h => h) (Or.inl ⟨by rfl, ?_⟩) hS ?_
      · intro w' hSw
        obtain ⟨hS0, hS1, hS2⟩ := hSw
        go_simp
      (try simp only [List.getElem_toArray]); (try simp only [List.getElem_cons_succ]); (try simp only [List.getElem_cons_zero]); (try simp only [Act.put]); (try simp only [List.setIfInBounds_toArray]); (try simp only [List.set_cons_succ]); (try simp only [List.set_cons_zero])
      refine wpAnyH_take (i := 2) (v := .agg (#[.int .i64 256, .slice pB 4 cB])) rfl (by kernel_rfl) (by kernel_rfl) (by kernel_rfl) (fun _ _ _ h => h) (Or.inl ⟨by rfl, ?_⟩) hS ?_
      · intro w' hSw
        obtain ⟨hS0, hS1, hS2⟩ := hSw
        go_simp
      (try simp only [List.getElem_toArray]); (try simp only [List.getElem_cons_succ]); (try simp only [List.getElem_cons_zero]); (try simp only [Act.put]); (try simp only [List.setIfInBounds_toArray]); (try simp only [List.set_cons_succ]); (try simp only [List.set_cons_zero])
      refine wpAnyH_ready (rs := [3]) (by kernel_rfl) (by simp) ?_
      refine AllReadyH.cons (o := _) rfl (fun K hK => ?_) AllReadyH.nil
      refine step_store_blk rfl 33 _ _ rfl w.heap.size (#[.slice p0 x.xTape.length c0, .slice p1 x.xUsed.length c1, .int .i64 x.xSent, .slice p2 x.xHeard.length c2, .int .i64 x.xCheat.xWho, .int .i64 x.xCheat.xAt, .int .i64 x.xCheat.xBy, .bool x.xCheat.xCry, .bool x.xQuarrel.xSome, .int .i64 x.xQuarrel.xFrom, .int .i64 x.xQuarrel.xCheck, .int .i64 x.xQuarrel.xTo, .int .i64 x.xQuarrel.xTold, .int .i64 x.xQuarrel.xHeard, .int .i64 x.xQuarrel.xOther, .int .i64 x.xQuarrel.xVowed]) rfl rfl Y8 rfl (by kernel_rfl) (by kernel_rfl) ?_
      intro x0 S0 O0
      have P1 : Off [w.heap.size, w.heap.size + 1, w.heap.size + 2] w8 x0 := P0.trans (O0.mono (by simp))
      replace Y8 := S0
      replace U8 := U8.off O0 (by simp)
      replace V8 := V8.off O0 (by simp)
      refine hK.out _ _ (HS.out _ P1) (fun hS => ?_)
      clear hK K
      (try simp only [List.getElem_toArray]); (try simp only [List.getElem_cons_succ]); (try simp only [List.getElem_cons_zero]); (try simp only [Act.put]); (try simp only [List.setIfInBounds_toArray]); (try simp only [List.set_cons_succ]); (try simp only [List.set_cons_zero])
      refine wpAnyH_ready (rs := [4]) (by kernel_rfl) (by simp) ?_
      refine AllReadyH.cons (o := _) rfl (fun K hK => ?_) AllReadyH.nil
      refine step_store_blk rfl 35 _ _ rfl (w.heap.size + 1) (#[.int .i64 256, .slice pA 4 cA]) rfl rfl U8 rfl (by kernel_rfl) (by kernel_rfl) ?_
      intro x1 S1 O1
      have P2 : Off [w.heap.size, w.heap.size + 1, w.heap.size + 2] w8 x1 := P1.trans (O1.mono (by simp))
      replace Y8 := Y8.off O1 (by simp)
      replace U8 := S1
      replace V8 := V8.off O1 (by simp)
      refine hK.out _ _ (HS.out _ P2) (fun hS => ?_)
      clear hK K
      (try simp only [List.getElem_toArray]); (try simp only [List.getElem_cons_succ]); (try simp only [List.getElem_cons_zero]); (try simp only [Act.put]); (try simp only [List.setIfInBounds_toArray]); (try simp only [List.set_cons_succ]); (try simp only [List.set_cons_zero])
      refine wpAnyH_ready (rs := [5]) (by kernel_rfl) (by simp) ?_
      refine AllReadyH.cons (o := _) rfl (fun K hK => ?_) AllReadyH.nil
      refine step_store_blk rfl 35 _ _ rfl (w.heap.size + 2) (#[.int .i64 256, .slice pB 4 cB]) rfl rfl V8 rfl (by kernel_rfl) (by kernel_rfl) ?_
      intro x2 S2 O2
      have P3 : Off [w.heap.size, w.heap.size + 1, w.heap.size + 2] w8 x2 := P2.trans (O2.mono (by simp))
      replace Y8 := Y8.off O2 (by simp)
      replace U8 := U8.off O2 (by simp)
      replace V8 := S2
      refine hK.out _ _ (HS.out _ P3) (fun hS => ?_)
      clear hK K
      (try simp only [List.getElem_toArray]); (try simp only [List.getElem_cons_succ]); (try simp only [List.getElem_cons_zero]); (try simp only [Act.put]); (try simp only [List.setIfInBounds_toArray]); (try simp only [List.set_cons_succ]); (try simp only [List.set_cons_zero])
      refine wpAnyH_done (by kernel_rfl) ?_ _
      clear hS HS
      have ya := Y8.at.1
      have ua := U8.at.1
      have va := V8.at.1
      have QF : Off [bS, w.heap.size, w.heap.size + 1, w.heap.size + 2] w2 x2 := (Q8.mono (by simp)).trans (P3.mono (by simp))
      have FN := HRN.out x2 _ QF (fun z hz => by simp at hz; omega)
      have FA : RdMirror x2 (.agg #[.int .i64 256, .slice pA 4 cA]) ⟨256, mirRows xs⟩ := ⟨pA, cA, by rw [lm], by rw [lm]; exact (M8.off P3 (fun y hy hm => by have := hbA y hy; simp at hm; omega)).reads⟩
      have FB : RdMirror x2 (.agg #[.int .i64 256, .slice pB 4 cB]) ⟨256, mirRows ys⟩ := ⟨pB, cB, by rw [lmb], by rw [lmb]; exact (N8.off P3 (fun y hy hm => by have := hbB y hy; simp at hm; omega)).reads⟩
      have BF : Below w.heap.size w x2 := B2.trans (QF.toBelow B2.size (fun z hz => by simp at hz; omega))
      go_wp2
      exact bodyPost_ret (v := .tuple #[.agg (#[.slice p0 x.xTape.length c0, .slice p1 x.xUsed.length c1, .int .i64 x.xSent, .slice p2 x.xHeard.length c2, .int .i64 x.xCheat.xWho, .int .i64 x.xCheat.xAt, .int .i64 x.xCheat.xBy, .bool x.xCheat.xCry, .bool x.xQuarrel.xSome, .int .i64 x.xQuarrel.xFrom, .int .i64 x.xQuarrel.xCheck, .int .i64 x.xQuarrel.xTo, .int .i64 x.xQuarrel.xTold, .int .i64 x.xQuarrel.xHeard, .int .i64 x.xQuarrel.xOther, .int .i64 x.xQuarrel.xVowed]), .agg #[.int .i64 256, .slice pA 4 cA], .agg #[.int .i64 256, .slice pB 4 cB]]) (by simp [results, Tryz.results7, go_sem, ya, ua, va]) rfl ⟨_, x, _, _, ⟨256, mirRows xs⟩, ⟨256, mirRows ys⟩, rfl, FN, HF.out, FA, FB, BF⟩
  · as_aux_lemma =>
      clear N8
      go_wp2_with fail
      refine (spec_l3Q _ a cap zs _ _ s8 (by omega)).mono ?_
      rintro e w9 ⟨q, rfl, hq, s9, o9⟩
      have HQ : Hid (isQ q) := hq
      clear hq
      go_wp2_with fail
      refine (spec_l3Bent _ a cap zs _ q _ s9 (by omega) (by rcases HQ.out with h | h <;> omega)).mono ?_
      rintro e w10 ⟨vB, rfl, E, hRB, -, ⟨j2, hj2, s10⟩, o10⟩
      obtain ⟨pE, cE, rfl, -⟩ := hRB w10 [] (Off.refl _ _) (by simp)
      have HRB : Hid (∀ V cs, Off cs w10 V → (∀ z ∈ cs, z < w9.heap.size) → RdMirror V (.agg #[.int .i64 E.xQ, .slice pE E.xViews.length cE]) E) := hRB
      clear hRB
      have o910 := o9.trans o10
      have z9 := o9.size
      have z10 := o10.size
      have Z10 := Z8.off o910 (by simp; omega)
      have T10 := T8.off o910 (by simp; omega)
      have R10 := R8.off o910 (by simp; omega)
      have Y10 := Y8.off o910 (by simp; omega)
      have U10 := U8.off o910 (by simp; omega)
      have V10 := V8.off o910 (by simp; omega)
      have M10 := M8.off o910 (fun y hy hm => by have := hbA y hy; simp at hm; omega)
      have Q10 := Q8.trans o910
      clear o9 o10 o910 s9 s10 s8 Z8 T8 R8 Y8 U8 V8 M8 Q8
      go_wp2_with (refine wpList_store_blk rfl 35 _ _ rfl gB #[.int .i64 E.xQ, .slice pE E.xViews.length cE] rfl rfl R10 rfl (by kernel_rfl) (by kernel_rfl) ?_; intro w11 R11 O11)
      have Z11 := Z10.off O11 (by simp; omega)
      have T11 := T10.off O11 (by simp; omega)
      have Y11 := Y10.off O11 (by simp; omega)
      have U11 := U10.off O11 (by simp; omega)
      have V11 := V10.off O11 (by simp; omega)
      have M11 := M10.off O11 (fun y hy hm => by have := ltA y hy; simp at hm; omega)
      have Q11 := Q10.mixD O11 (fun y hy => by simp at hy; right; omega)
      have z11 := O11.size
      clear Z10 T10 R10 Y10 U10 V10 M10 Q10
      have HS : Hid (∀ V, Off [w.heap.size, w.heap.size + 1, w.heap.size + 2] w11 V → (∀ o, V.cell? ⟨g, o, none⟩ = (#[.slice p0 x.xTape.length c0, .slice p1 x.xUsed.length c1, .int .i64 x.xSent, .slice p2 x.xHeard.length c2, .int .i64 x.xCheat.xWho, .int .i64 x.xCheat.xAt, .int .i64 x.xCheat.xBy, .bool x.xCheat.xCry, .bool x.xQuarrel.xSome, .int .i64 x.xQuarrel.xFrom, .int .i64 x.xQuarrel.xCheck, .int .i64 x.xQuarrel.xTo, .int .i64 x.xQuarrel.xTold, .int .i64 x.xQuarrel.xHeard, .int .i64 x.xQuarrel.xOther, .int .i64 x.xQuarrel.xVowed] : Array Value)[o]?) ∧ (∀ o, V.cell? ⟨gA, o, none⟩ = (#[.int .i64 256, .slice pA 4 cA] : Array Value)[o]?) ∧ (∀ o, V.cell? ⟨gB, o, none⟩ = (#[.int .i64 E.xQ, .slice pE E.xViews.length cE] : Array Value)[o]?)) := fun V h => ⟨(Z11.off h (by simp; omega)).at.1, (T11.off h (by simp; omega)).at.1, (R11.off h (by simp; omega)).at.1⟩
      go_wp2_with fail
      refine wp_region_held (S := fun V => (∀ o, V.cell? ⟨g, o, none⟩ = (#[.slice p0 x.xTape.length c0, .slice p1 x.xUsed.length c1, .int .i64 x.xSent, .slice p2 x.xHeard.length c2, .int .i64 x.xCheat.xWho, .int .i64 x.xCheat.xAt, .int .i64 x.xCheat.xBy, .bool x.xCheat.xCry, .bool x.xQuarrel.xSome, .int .i64 x.xQuarrel.xFrom, .int .i64 x.xQuarrel.xCheck, .int .i64 x.xQuarrel.xTo, .int .i64 x.xQuarrel.xTold, .int .i64 x.xQuarrel.xHeard, .int .i64 x.xQuarrel.xOther, .int .i64 x.xQuarrel.xVowed] : Array Value)[o]?) ∧ (∀ o, V.cell? ⟨gA, o, none⟩ = (#[.int .i64 256, .slice pA 4 cA] : Array Value)[o]?) ∧ (∀ o, V.cell? ⟨gB, o, none⟩ = (#[.int .i64 E.xQ, .slice pE E.xViews.length cE] : Array Value)[o]?)) (by kernel_rfl) ?_
      try (change wpAnyH _ _ _ _ _ _ _ _ (World.drew _))
      have P0 : Off [w.heap.size, w.heap.size + 1, w.heap.size + 2] w11 w11.drew := (Off.refl _ _).drew
      have hS := HS.out _ P0
      replace Y11 := Y11.drew
      replace U11 := U11.drew
      replace V11 := V11.drew
      refine wpAnyH_take (i := 0) (v := .agg (#[.slice p0 x.xTape.length c0, .slice p1 x.xUsed.length c1, .int .i64 x.xSent, .slice p2 x.xHeard.length c2, .int .i64 x.xCheat.xWho, .int .i64 x.xCheat.xAt, .int .i64 x.xCheat.xBy, .bool x.xCheat.xCry, .bool x.xQuarrel.xSome, .int .i64 x.xQuarrel.xFrom, .int .i64 x.xQuarrel.xCheck, .int .i64 x.xQuarrel.xTo, .int .i64 x.xQuarrel.xTold, .int .i64 x.xQuarrel.xHeard, .int .i64 x.xQuarrel.xOther, .int .i64 x.xQuarrel.xVowed])) rfl (by kernel_rfl) (by kernel_rfl) (by kernel_rfl) (fun _ _ _ h => h) (Or.inl ⟨by rfl, ?_⟩) hS ?_
      · intro w' hSw
        obtain ⟨hS0, hS1, hS2⟩ := hSw
        go_simp
      (try simp only [List.getElem_toArray]); (try simp only [List.getElem_cons_succ]); (try simp only [List.getElem_cons_zero]); (try simp only [Act.put]); (try simp only [List.setIfInBounds_toArray]); (try simp only [List.set_cons_succ]); (try simp only [List.set_cons_zero])
      refine wpAnyH_take (i := 1) (v := .agg (#[.int .i64 256, .slice pA 4 cA])) rfl (by kernel_rfl) (by kernel_rfl) (by kernel_rfl) (fun _ _ _ h => h) (Or.inl ⟨by rfl, ?_⟩) hS ?_
      · intro w' hSw
        obtain ⟨hS0, hS1, hS2⟩ := hSw
        go_simp
      (try simp only [List.getElem_toArray]); (try simp only [List.getElem_cons_succ]); (try simp only [List.getElem_cons_zero]); (try simp only [Act.put]); (try simp only [List.setIfInBounds_toArray]); (try simp only [List.set_cons_succ]); (try simp only [List.set_cons_zero])
      refine wpAnyH_take (i := 2) (v := .agg (#[.int .i64 E.xQ, .slice pE E.xViews.length cE])) rfl (by kernel_rfl) (by kernel_rfl) (by kernel_rfl) (fun _ _ _ h => h) (Or.inl ⟨by rfl, ?_⟩) hS ?_
      · intro w' hSw
        obtain ⟨hS0, hS1, hS2⟩ := hSw
        go_simp
      (try simp only [List.getElem_toArray]); (try simp only [List.getElem_cons_succ]); (try simp only [List.getElem_cons_zero]); (try simp only [Act.put]); (try simp only [List.setIfInBounds_toArray]); (try simp only [List.set_cons_succ]); (try simp only [List.set_cons_zero])
      refine wpAnyH_ready (rs := [3]) (by kernel_rfl) (by simp) ?_
      refine AllReadyH.cons (o := _) rfl (fun K hK => ?_) AllReadyH.nil
      refine step_store_blk rfl 33 _ _ rfl w.heap.size (#[.slice p0 x.xTape.length c0, .slice p1 x.xUsed.length c1, .int .i64 x.xSent, .slice p2 x.xHeard.length c2, .int .i64 x.xCheat.xWho, .int .i64 x.xCheat.xAt, .int .i64 x.xCheat.xBy, .bool x.xCheat.xCry, .bool x.xQuarrel.xSome, .int .i64 x.xQuarrel.xFrom, .int .i64 x.xQuarrel.xCheck, .int .i64 x.xQuarrel.xTo, .int .i64 x.xQuarrel.xTold, .int .i64 x.xQuarrel.xHeard, .int .i64 x.xQuarrel.xOther, .int .i64 x.xQuarrel.xVowed]) rfl rfl Y11 rfl (by kernel_rfl) (by kernel_rfl) ?_
      intro x0 S0 O0
      have P1 : Off [w.heap.size, w.heap.size + 1, w.heap.size + 2] w11 x0 := P0.trans (O0.mono (by simp))
      replace Y11 := S0
      replace U11 := U11.off O0 (by simp)
      replace V11 := V11.off O0 (by simp)
      refine hK.out _ _ (HS.out _ P1) (fun hS => ?_)
      clear hK K
      (try simp only [List.getElem_toArray]); (try simp only [List.getElem_cons_succ]); (try simp only [List.getElem_cons_zero]); (try simp only [Act.put]); (try simp only [List.setIfInBounds_toArray]); (try simp only [List.set_cons_succ]); (try simp only [List.set_cons_zero])
      refine wpAnyH_ready (rs := [4]) (by kernel_rfl) (by simp) ?_
      refine AllReadyH.cons (o := _) rfl (fun K hK => ?_) AllReadyH.nil
      refine step_store_blk rfl 35 _ _ rfl (w.heap.size + 1) (#[.int .i64 256, .slice pA 4 cA]) rfl rfl U11 rfl (by kernel_rfl) (by kernel_rfl) ?_
      intro x1 S1 O1
      have P2 : Off [w.heap.size, w.heap.size + 1, w.heap.size + 2] w11 x1 := P1.trans (O1.mono (by simp))
      replace Y11 := Y11.off O1 (by simp)
      replace U11 := S1
      replace V11 := V11.off O1 (by simp)
      refine hK.out _ _ (HS.out _ P2) (fun hS => ?_)
      clear hK K
      (try simp only [List.getElem_toArray]); (try simp only [List.getElem_cons_succ]); (try simp only [List.getElem_cons_zero]); (try simp only [Act.put]); (try simp only [List.setIfInBounds_toArray]); (try simp only [List.set_cons_succ]); (try simp only [List.set_cons_zero])
      refine wpAnyH_ready (rs := [5]) (by kernel_rfl) (by simp) ?_
      refine AllReadyH.cons (o := _) rfl (fun K hK => ?_) AllReadyH.nil
      refine step_store_blk rfl 35 _ _ rfl (w.heap.size + 2) (#[.int .i64 E.xQ, .slice pE E.xViews.length cE]) rfl rfl V11 rfl (by kernel_rfl) (by kernel_rfl) ?_
      intro x2 S2 O2
      have P3 : Off [w.heap.size, w.heap.size + 1, w.heap.size + 2] w11 x2 := P2.trans (O2.mono (by simp))
      replace Y11 := Y11.off O2 (by simp)
      replace U11 := U11.off O2 (by simp)
      replace V11 := S2
      refine hK.out _ _ (HS.out _ P3) (fun hS => ?_)
      clear hK K
      (try simp only [List.getElem_toArray]); (try simp only [List.getElem_cons_succ]); (try simp only [List.getElem_cons_zero]); (try simp only [Act.put]); (try simp only [List.setIfInBounds_toArray]); (try simp only [List.set_cons_succ]); (try simp only [List.set_cons_zero])
      refine wpAnyH_done (by kernel_rfl) ?_ _
      clear hS HS
      have ya := Y11.at.1
      have ua := U11.at.1
      have va := V11.at.1
      have QF : Off [bS, w.heap.size, w.heap.size + 1, w.heap.size + 2] w2 x2 := (Q11.mono (by simp)).trans (P3.mono (by simp))
      have FN := HRN.out x2 _ QF (fun z hz => by simp at hz; omega)
      have FA : RdMirror x2 (.agg #[.int .i64 256, .slice pA 4 cA]) ⟨256, mirRows xs⟩ := ⟨pA, cA, by rw [lm], by rw [lm]; exact (M11.off P3 (fun y hy hm => by have := hbA y hy; simp at hm; omega)).reads⟩
      have FB := HRB.out x2 [gB, w.heap.size, w.heap.size + 1, w.heap.size + 2] ((O11.mono (by simp)).trans (P3.mono (by simp))) (fun z hz => by simp at hz; omega)
      have BF : Below w.heap.size w x2 := B2.trans (QF.toBelow B2.size (fun z hz => by simp at hz; omega))
      go_wp2
      exact bodyPost_ret (v := .tuple #[.agg (#[.slice p0 x.xTape.length c0, .slice p1 x.xUsed.length c1, .int .i64 x.xSent, .slice p2 x.xHeard.length c2, .int .i64 x.xCheat.xWho, .int .i64 x.xCheat.xAt, .int .i64 x.xCheat.xBy, .bool x.xCheat.xCry, .bool x.xQuarrel.xSome, .int .i64 x.xQuarrel.xFrom, .int .i64 x.xQuarrel.xCheck, .int .i64 x.xQuarrel.xTo, .int .i64 x.xQuarrel.xTold, .int .i64 x.xQuarrel.xHeard, .int .i64 x.xQuarrel.xOther, .int .i64 x.xQuarrel.xVowed]), .agg #[.int .i64 256, .slice pA 4 cA], .agg #[.int .i64 E.xQ, .slice pE E.xViews.length cE]]) (by simp [results, Tryz.results7, go_sem, ya, ua, va]) rfl ⟨_, x, _, _, ⟨256, mirRows xs⟩, E, rfl, FN, HF.out, FA, FB, BF⟩
end Go.Proofs.YtepobckhfodngacGreat
