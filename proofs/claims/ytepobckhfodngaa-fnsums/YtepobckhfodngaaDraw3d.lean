/-
  Contracts of what the laws draw for chapter 3: two mirrors; a mirror and a number; a number of a ring.
-/
import Derived.Test.YtepobckhfodngaaDraw3c
namespace Go.Proofs.Ytepobckhfodngaa
open Go.ChangeShapes Go.WideShapes Go.ChangeAt Go.RowKit
set_option linter.unusedVariables false

/-- what is drawn stays readable, whatever becomes of what was there -/
def Stable (n : Nat) (w' : World) (u : Value) (x : MMirror) : Prop := ∀ W cs, Off cs w' W → (∀ z ∈ cs, z < n) → RdMirror W u x
theorem Stable.off {n : Nat} {w w' : World} {u : Value} {x : MMirror} {bs : List Nat} (h : Stable n w u x) (o : Off bs w w') (hb : ∀ z ∈ bs, z < n) : Stable n w' u x := fun W cs o' hc => h W (bs ++ cs) ((o.mono (fun y hy => List.mem_append_left _ hy)).trans (o'.mono (fun y hy => List.mem_append_right _ hy))) (fun z hz => by
  rcases List.mem_append.1 hz with h | h
  · exact hb z h
  · exact hc z h)
theorem Stable.mono {n m : Nat} {w : World} {u : Value} {x : MMirror} (h : Stable n w u x) (hm : m ≤ n) : Stable m w u x := fun W cs o hc => h W cs o (fun z hz => Nat.lt_of_lt_of_le (hc z hz) hm)
theorem Stable.rd {n : Nat} {w : World} {u : Value} {x : MMirror} (h : Stable n w u x) : RdMirror w u x := h w [] (Off.refl _ _) (fun z hz => by cases hz)
set_option maxHeartbeats 2000000 in
theorem spec_DrawAddMirrors (a : Option Addr) (cap : Nat) (zs : List Int) (w : World) (hr : Reads w .u8 (.slice a zs.length cap) zs) (hl : zs.length ≤ 1048576) (hb : ∀ i, 0 ≤ zs.getD i 0 ∧ zs.getD i 0 ≤ 255) :
    Calls Try.prog 51 #[.slice a zs.length cap] w fun e w' => ∃ (u u' : Value) (x x' : MMirror), e = .returned (.tuple #[u, u']) ∧ Stable w.heap.size w' u x ∧ Stable w.heap.size w' u' x' ∧ Below w.heap.size w w' := by
  have Y0 : Blk ((w.alloc (.cells #[.int .i64 0, .slice none 0 0] 59)).alloc (.cells #[.int .i64 0, .slice none 0 0] 59)) w.heap.size 59 #[.int .i64 0, .slice none 0 0] := (Blk.new w _ _).alloc _
  have Z0 : Blk ((w.alloc (.cells #[.int .i64 0, .slice none 0 0] 59)).alloc (.cells #[.int .i64 0, .slice none 0 0] 59)) (w.heap.size + 1) 59 #[.int .i64 0, .slice none 0 0] := by simpa using Blk.new (w.alloc (.cells #[.int .i64 0, .slice none 0 0] 59)) 59 #[.int .i64 0, .slice none 0 0]
  have B0 : Below w.heap.size w ((w.alloc (.cells #[.int .i64 0, .slice none 0 0] 59)).alloc (.cells #[.int .i64 0, .slice none 0 0] 59)) := (by repeat (first | exact Below.refl _ _ | refine Below.drew ?_ | refine below_drewN ?_ _ | refine Below.setCell ?_ (by first | omega | (simp; done) | (simp; omega)) _ | refine Below.alloc ?_ (by first | omega | (simp; done) | (simp; omega)) _))
  have hbz : (((w.alloc (.cells #[.int .i64 0, .slice none 0 0] 59)).alloc (.cells #[.int .i64 0, .slice none 0 0] 59))).heap.size = w.heap.size + 1 + 1 := by simp
  have hr0 := hr.below B0
  clear hr
  go_enter Try.func51, Try.ntmps51
  go_wp2_with fail
  refine (spec_l1Source a cap zs _ hr0 hl hb).mono ?_
  rintro e w1 ⟨rfl, s1, hb1⟩
  rw [hbz] at s1 ⊢
  have Y1 := Y0.keep hb1
  have Z1 := Z0.keep hb1
  have B1 := B0.trans (hb1.mono B0.size)
  obtain ⟨b, hbb⟩ : ∃ n, n = w.heap.size + 1 + 1 := ⟨_, rfl⟩
  rw [← hbb] at s1 ⊢
  have hbw : w.heap.size + 1 < b := by omega
  clear Y0 Z0 B0 hb1 hr0 hb hbb hbz
  have zb1 := s1.blk.lt
  go_wp2_with fail
  refine (spec_l3Q b a cap zs _ _ s1 (by omega)).mono ?_
  rintro e w2 ⟨q, rfl, hq, s2, o2⟩
  have hq2 : q ≤ 256 := by rcases hq with h | h <;> omega
  have Y2 := Y1.off o2 (by simp; omega)
  have Z2 := Z1.off o2 (by simp; omega)
  have B2 := B1.trans (o2.toBelow B1.size (by simp; omega))
  have zb2 := s2.blk.lt
  clear Y1 Z1 B1 o2 s1 hq
  go_wp2_with fail
  refine (spec_l3Bent b a cap zs _ q _ s2 (by omega) hq2).mono ?_
  rintro e w3 ⟨u, rfl, x, hRS, -, ⟨j, hj, s3⟩, o3⟩
  have T3 : Stable w2.heap.size w3 u x := hRS
  have Y3 := Y2.off o3 (by simp; omega)
  have Z3 := Z2.off o3 (by simp; omega)
  have B3 := B2.trans (o3.toBelow B2.size (by simp; omega))
  have z3 := o3.size
  clear Y2 Z2 B2 o3 s2 hRS
  go_wp2_with fail
  refine (spec_l3Bent b a cap zs _ q _ s3 (by omega) hq2).mono ?_
  rintro e w4 ⟨u', rfl, x', hRS', -, ⟨j', hj', s4⟩, o4⟩
  have T4' : Stable w3.heap.size w4 u' x' := hRS'
  have T4 := T3.off o4 (by simp; omega)
  have Y4 := Y3.off o4 (by simp; omega)
  have Z4 := Z3.off o4 (by simp; omega)
  have B4 := B3.trans (o4.toBelow B3.size (by simp; omega))
  clear T3 Y3 Z3 B3 o4 s3 s4 hRS'
  obtain ⟨p, c, rfl, -⟩ := T4.rd
  obtain ⟨p', c', rfl, -⟩ := T4'.rd
  have ya := Y4.at.1
  have yb := Y4.at.2
  have za := Z4.at.1
  have zb := Z4.at.2
  have OO : ∀ V, Off [w.heap.size, w.heap.size + 1] w4 V → (∃ (u u' : Value) (y y' : MMirror), Ending.returned (.tuple #[.agg #[.int .i64 x.xQ, .slice p x.xViews.length c], .agg #[.int .i64 x'.xQ, .slice p' x'.xViews.length c']]) = .returned (.tuple #[u, u']) ∧ Stable w.heap.size V u y ∧ Stable w.heap.size V u' y' ∧ Below w.heap.size w V) := fun V OO => ⟨_, _, x, x', rfl, (T4.off OO (fun z hz => by simp at hz; omega)).mono (by omega), (T4'.off OO (fun z hz => by simp at hz; omega)).mono (by omega), B4.trans (OO.toBelow B4.size (fun z hz => by simp at hz; omega))⟩
  clear T4 T4' Y4 Z4 B4
  go_wp2
  exact bodyPost_ret (v := .tuple #[.agg #[.int .i64 x.xQ, .slice p x.xViews.length c], .agg #[.int .i64 x'.xQ, .slice p' x'.xViews.length c']]) (by simp [results, Try.results51, go_sem, ya, za]) rfl (OO _ (((((Off.refl _ _).setCell _ _ (by simp)).setCell _ _ (by simp)).setCell _ _ (by simp)).setCell _ _ (by simp)))
set_option maxHeartbeats 2000000 in
theorem spec_DrawScaleMirror (a : Option Addr) (cap : Nat) (zs : List Int) (w : World) (hr : Reads w .u8 (.slice a zs.length cap) zs) (hl : zs.length ≤ 1048576) (hb : ∀ i, 0 ≤ zs.getD i 0 ∧ zs.getD i 0 ≤ 255) :
    Calls Try.prog 54 #[.slice a zs.length cap] w fun e w' => ∃ (u : Value) (x : MMirror) (k : Int), e = .returned (.tuple #[u, .int .i64 k]) ∧ Stable w.heap.size w' u x ∧ Below w.heap.size w w' := by
  have Y0 := Blk.new w 59 #[.int .i64 0, .slice none 0 0]
  have B0 : Below w.heap.size w (w.alloc (.cells #[.int .i64 0, .slice none 0 0] 59)) := (by repeat (first | exact Below.refl _ _ | refine Below.drew ?_ | refine below_drewN ?_ _ | refine Below.setCell ?_ (by first | omega | (simp; done) | (simp; omega)) _ | refine Below.alloc ?_ (by first | omega | (simp; done) | (simp; omega)) _))
  have hbz : ((w.alloc (.cells #[.int .i64 0, .slice none 0 0] 59))).heap.size = w.heap.size + 1 := by simp
  have hr0 := hr.below B0
  clear hr
  go_enter Try.func54, Try.ntmps54
  go_wp2_with fail
  refine (spec_l1Source a cap zs _ hr0 hl hb).mono ?_
  rintro e w1 ⟨rfl, s1, hb1⟩
  rw [hbz] at s1 ⊢
  have Y1 := Y0.keep hb1
  have B1 := B0.trans (hb1.mono B0.size)
  obtain ⟨b, hbb⟩ : ∃ n, n = w.heap.size + 1 := ⟨_, rfl⟩
  rw [← hbb] at s1 ⊢
  have hbw : w.heap.size < b := by omega
  clear Y0 B0 hb1 hr0 hb hbb hbz
  have zb1 := s1.blk.lt
  go_wp2_with fail
  refine (spec_l3Q b a cap zs _ _ s1 (by omega)).mono ?_
  rintro e w2 ⟨q, rfl, hq, s2, o2⟩
  have hq2 : q ≤ 256 := by rcases hq with h | h <;> omega
  have Y2 := Y1.off o2 (by simp; omega)
  have B2 := B1.trans (o2.toBelow B1.size (by simp; omega))
  have zb2 := s2.blk.lt
  clear Y1 B1 o2 s1 hq
  go_wp2_with fail
  refine (spec_l3Bent b a cap zs _ q _ s2 (by omega) hq2).mono ?_
  rintro e w3 ⟨u, rfl, x, hRS, -, ⟨j, hj, s3⟩, o3⟩
  have T3 : Stable w2.heap.size w3 u x := hRS
  have Y3 := Y2.off o3 (by simp; omega)
  have B3 := B2.trans (o3.toBelow B2.size (by simp; omega))
  have z3 := o3.size
  clear Y2 B2 o3 s2 hRS
  go_wp2_with fail
  refine (spec_l1Next b a cap zs _ q _ s3 (by omega) (by omega)).mono ?_
  rintro e w4 ⟨r4, rfl, -, s4, o4⟩
  have T4 := T3.off o4 (by simp; omega)
  have Y4 := Y3.off o4 (by simp; omega)
  have B4 := B3.trans (o4.toBelow B3.size (by simp; omega))
  clear T3 Y3 B3 o4 s3
  go_wp2_with fail
  refine (spec_l1Next b a cap zs _ q _ s4 (by omega) (by omega)).mono ?_
  rintro e w5 ⟨r5, rfl, -, s5, o5⟩
  have T5 := T4.off o5 (by simp; omega)
  have Y5 := Y4.off o5 (by simp; omega)
  have B5 := B4.trans (o5.toBelow B4.size (by simp; omega))
  clear T4 Y4 B4 o5 s4
  have zb5 := s5.blk.lt
  go_wp2_with fail
  refine (spec_l1Pick b a cap zs _ _ [r4, r5, 1, 256] [w5.heap.size] _ (s5.alloc _) (by omega) (Ints.lit w5 _ _ 4 rfl rfl (by omega)) (by simp) (by simp) (by simp; omega)).mono ?_
  rintro e w6 ⟨k, rfl, -, -, o6⟩
  have O6 : Off [b] w5 w6 := ((Off.refl _ _).alloc _).trans o6
  have T6 := T5.off O6 (by simp; omega)
  have Y6 := Y5.off O6 (by simp; omega)
  have B6 := B5.trans (O6.toBelow B5.size (by simp; omega))
  clear T5 Y5 B5 o6 O6 s5
  obtain ⟨p, c, rfl, -⟩ := T6.rd
  have ya := Y6.at.1
  have yb := Y6.at.2
  have OO : ∀ V, Off [w.heap.size] w6 V → (∃ (u : Value) (y : MMirror) (k' : Int), Ending.returned (.tuple #[.agg #[.int .i64 x.xQ, .slice p x.xViews.length c], .int .i64 k]) = .returned (.tuple #[u, .int .i64 k']) ∧ Stable w.heap.size V u y ∧ Below w.heap.size w V) := fun V OO => ⟨_, x, k, rfl, (T6.off OO (fun z hz => by simp at hz; omega)).mono (by omega), B6.trans (OO.toBelow B6.size (fun z hz => by simp at hz; omega))⟩
  clear T6 Y6 B6
  go_wp2
  exact bodyPost_ret (v := .tuple #[.agg #[.int .i64 x.xQ, .slice p x.xViews.length c], .int .i64 k]) (by simp [results, Try.results54, go_sem, ya]) rfl (OO _ (((Off.refl _ _).setCell _ _ (by simp)).setCell _ _ (by simp)))
set_option maxHeartbeats 2000000 in
theorem spec_DrawPlainMirror (a : Option Addr) (cap : Nat) (zs : List Int) (w : World) (hr : Reads w .u8 (.slice a zs.length cap) zs) (hl : zs.length ≤ 1048576) (hb : ∀ i, 0 ≤ zs.getD i 0 ∧ zs.getD i 0 ≤ 255) :
    Calls Try.prog 57 #[.slice a zs.length cap] w fun e w' => ∃ q v : Int, e = .returned (.tuple #[.int .i64 q, .int .i64 v]) ∧ Below w.heap.size w w' := by
  go_enter Try.func57, Try.ntmps57
  go_wp2_with fail
  refine (spec_l1Source a cap zs w hr hl hb).mono ?_
  rintro e w1 ⟨rfl, s1, hb1⟩
  have z1 := s1.blk.lt
  go_wp2_with fail
  refine (spec_l1Pick w.heap.size a cap zs 0 _ [2, 256, 256, 3] [w1.heap.size] _ (s1.alloc _) (by omega) (Ints.lit w1 _ _ 4 rfl rfl (by omega)) (by simp) (by simp) (by simp; omega)).mono ?_
  rintro e w2 ⟨q, rfl, -, s2, o2⟩
  go_wp2_with fail
  refine (spec_l1Next w.heap.size a cap zs _ _ _ s2 (by omega) (by omega)).mono ?_
  rintro e w3 ⟨r3, rfl, -, s3, o3⟩
  go_wp2_with fail
  refine (spec_l1Next w.heap.size a cap zs _ _ _ s3 (by omega) (by omega)).mono ?_
  rintro e w4 ⟨r4, rfl, -, s4, o4⟩
  have z4 := s4.blk.lt
  go_wp2_with fail
  refine (spec_l1Pick w.heap.size a cap zs _ _ [r3, r4, 256] [w4.heap.size] _ (s4.alloc _) (by omega) (Ints.lit w4 _ _ 3 rfl rfl (by omega)) (by simp) (by simp) (by simp; omega)).mono ?_
  rintro e w5 ⟨v, rfl, -, s5, o5⟩
  go_wp2
  go_ret2
  exact ⟨q, v, rfl, hb1.trans ((((Off.refl _ _).alloc _).trans (o2.trans (o3.trans (o4.trans (((Off.refl _ _).alloc _).trans o5))))).toBelow hb1.size (by simp))⟩
end Go.Proofs.Ytepobckhfodngaa
