/-
  FnExactSameTapes answers true at all tapes: the program's SameTapes answers as its model does, and writes into no argument.
-/
import Derived.Test.YtadppilldijijaiSame
import Derived.Test.YtadppilldijijaiOpen
import Derived.Test.YtadppilldijijaiOpen
import Derived.Deep.RegionHeld3
import Derived.Deep.CutRange
import Derived.Deep.Cut
import Derived.Deep.RegionWith
import Derived.ShutString
import Derived.ChangeOld
import Derived.Below
namespace Go.Proofs.Ytadppilldijijai.fnExactSameTapes
open Go.ChangeShapes Go.WideShapes Go.ChangeAt Go.RowKit
open Go.ChangeMaps (open_string shut_string)
set_option linter.unusedVariables false

theorem own : ownKnob Try.prog.godebug = none := by kernel_rfl
theorem laidOut : laidOutB Try.prog = true := by kernel_rfl

set_option maxHeartbeats 4000000 in
set_option maxRecDepth 100000 in
theorem walk (v0 : Value) (x0 : List (List Int)) (v1 : Value) (x1 : List (List Int)) (w : World) (r0 : RdTape w (v0) x0) (r1 : RdTape w (v1) x1) :
    Calls Try.prog 3 #[v0, v1] w fun e w' => e = .returned (.bool true) ∧ Below w.heap.size w w' := by
  obtain ⟨p0_0, c0_0, hv0, r0_0⟩ := r0
  subst hv0
  have r0 : RdTape w (.agg #[.slice p0_0 x0.length c0_0]) x0 := ⟨p0_0, c0_0, rfl, r0_0⟩
  clear r0_0
  obtain ⟨p1_0, c1_0, hv1, r1_0⟩ := r1
  subst hv1
  have r1 : RdTape w (.agg #[.slice p1_0 x1.length c1_0]) x1 := ⟨p1_0, c1_0, rfl, r1_0⟩
  clear r1_0
  by_cases s0 : (1048576 : Int) < (totTape x0 : Nat)
  · skip
    go_enter Try.func3, Try.ntmps3
    go_wp2_with fail
    refine Calls.at (F := fun V => Blk V (w.heap.size) 24 #[.slice p0_0 x0.length c0_0] ∧ Blk V (w.heap.size + 1) 24 #[.slice p1_0 x1.length c1_0] ∧ Below w.heap.size w V) ⟨?_, ?_, ?_⟩ ?_
    · exact (Blk.new w 24 #[.slice p0_0 x0.length c0_0]).alloc (.cells #[.slice p1_0 x1.length c1_0] 24)
    · simpa using (Blk.new (w.alloc (.cells #[.slice p0_0 x0.length c0_0] 24)) 24 #[.slice p1_0 x1.length c1_0])
    · exact (by repeat (first | exact Below.refl _ _ | refine Below.drew ?_ | refine below_drewN ?_ _ | refine Below.setCell ?_ (by first | omega | (simp; done) | (simp; omega)) _ | refine Below.alloc ?_ (by first | omega | (simp; done) | (simp; omega)) _))
    rintro V1 ⟨X0, X1, B⟩
    refine (szTape_over _ x0 _ _ (by exact r0.below B) (by omega) (by omega) (by omega)).mono ?_
    rintro e w2 ⟨rfl, hb2⟩
    replace X0 := X0.keep hb2
    replace X1 := X1.keep hb2
    replace B := B.trans (hb2.mono B.size)
    go_wp2
    go_ret
    exact ⟨rfl, B⟩
  by_cases s1 : (1048576 - (totTape x0 : Nat) : Int) < (totTape x1 : Nat)
  · skip
    go_enter Try.func3, Try.ntmps3
    go_wp2_with fail
    refine Calls.at (F := fun V => Blk V (w.heap.size) 24 #[.slice p0_0 x0.length c0_0] ∧ Blk V (w.heap.size + 1) 24 #[.slice p1_0 x1.length c1_0] ∧ Below w.heap.size w V) ⟨?_, ?_, ?_⟩ ?_
    · exact (Blk.new w 24 #[.slice p0_0 x0.length c0_0]).alloc (.cells #[.slice p1_0 x1.length c1_0] 24)
    · simpa using (Blk.new (w.alloc (.cells #[.slice p0_0 x0.length c0_0] 24)) 24 #[.slice p1_0 x1.length c1_0])
    · exact (by repeat (first | exact Below.refl _ _ | refine Below.drew ?_ | refine below_drewN ?_ _ | refine Below.setCell ?_ (by first | omega | (simp; done) | (simp; omega)) _ | refine Below.alloc ?_ (by first | omega | (simp; done) | (simp; omega)) _))
    rintro V3 ⟨X0, X1, B⟩
    refine (szTape_fit _ x0 _ _ (by exact r0.below B) (by omega) (by omega) (by omega)).mono ?_
    rintro e w4 ⟨rfl, hb4⟩
    replace X0 := X0.keep hb4
    replace X1 := X1.keep hb4
    replace B := B.trans (hb4.mono B.size)
    have X0a := X0.at.1
    have X0l := X0.lt
    have X1a := X1.at.1
    have X1l := X1.lt
    go_wp2_with fail
    clear X0a X0l X1a X1l
    refine Calls.at (F := fun V => Blk V (w.heap.size) 24 #[.slice p0_0 x0.length c0_0] ∧ Blk V (w.heap.size + 1) 24 #[.slice p1_0 x1.length c1_0] ∧ Below w.heap.size w V) ⟨X0, X1, B⟩ ?_
    clear X0 X1 B
    rintro V5 ⟨X0, X1, B⟩
    refine (szTape_over _ x1 _ _ (by exact r1.below B) (by omega) (by omega) (by omega)).mono ?_
    rintro e w6 ⟨rfl, hb6⟩
    replace X0 := X0.keep hb6
    replace X1 := X1.keep hb6
    replace B := B.trans (hb6.mono B.size)
    go_wp2
    go_ret
    exact ⟨rfl, B⟩
  have hc0 := cntTape_le x0
  have hc1 := cntTape_le x1
  have KS : ∀ (V : World) (u0 : Value) (u1 : Value), RdTape V (u0) x0 → RdTape V (u1) x1 → Calls Try.prog 10 #[u0, u1] V fun e V' => e = .returned (.bool (sameM x0 x1)) ∧ Below V.heap.size V V' := fun V u0 u1 h0 h1 => spec_SameTapes _ _ _ _ _ h0 h1
  have KI : ∀ (V : World) (u0 : Value) (u1 : Value), RdTape V (u0) x0 → RdTape V (u1) x1 → Calls Try.prog 12 #[u0, u1] V fun e V' => e = .returned (.bool (sameM x0 x1)) ∧ Below V.heap.size V V' := fun V u0 u1 h0 h1 => impl_SameTapes _ _ _ _ _ h0 h1
  obtain ⟨r, HS, HI⟩ : ∃ r : Bool, Hid (∀ (V : World) (u0 : Value) (u1 : Value), RdTape V (u0) x0 → RdTape V (u1) x1 → Calls Try.prog 10 #[u0, u1] V fun e V' => e = .returned (.bool r) ∧ Below V.heap.size V V') ∧ Hid (∀ (V : World) (u0 : Value) (u1 : Value), RdTape V (u0) x0 → RdTape V (u1) x1 → Calls Try.prog 12 #[u0, u1] V fun e V' => e = .returned (.bool r) ∧ Below V.heap.size V V') := ⟨sameM x0 x1, KS, KI⟩
  clear KS KI
  go_enter Try.func3, Try.ntmps3
  go_wp2_with fail
  refine Calls.at (F := fun V => Blk V (w.heap.size) 24 #[.slice p0_0 x0.length c0_0] ∧ Blk V (w.heap.size + 1) 24 #[.slice p1_0 x1.length c1_0] ∧ Below w.heap.size w V) ⟨?_, ?_, ?_⟩ ?_
  · exact (Blk.new w 24 #[.slice p0_0 x0.length c0_0]).alloc (.cells #[.slice p1_0 x1.length c1_0] 24)
  · simpa using (Blk.new (w.alloc (.cells #[.slice p0_0 x0.length c0_0] 24)) 24 #[.slice p1_0 x1.length c1_0])
  · exact (by repeat (first | exact Below.refl _ _ | refine Below.drew ?_ | refine below_drewN ?_ _ | refine Below.setCell ?_ (by first | omega | (simp; done) | (simp; omega)) _ | refine Below.alloc ?_ (by first | omega | (simp; done) | (simp; omega)) _))
  rintro V7 ⟨X0, X1, B⟩
  refine (szTape_fit _ x0 _ _ (by exact r0.below B) (by omega) (by omega) (by omega)).mono ?_
  rintro e w8 ⟨rfl, hb8⟩
  replace X0 := X0.keep hb8
  replace X1 := X1.keep hb8
  replace B := B.trans (hb8.mono B.size)
  have X0a := X0.at.1
  have X0l := X0.lt
  have X1a := X1.at.1
  have X1l := X1.lt
  go_wp2_with fail
  clear X0a X0l X1a X1l
  refine Calls.at (F := fun V => Blk V (w.heap.size) 24 #[.slice p0_0 x0.length c0_0] ∧ Blk V (w.heap.size + 1) 24 #[.slice p1_0 x1.length c1_0] ∧ Below w.heap.size w V) ⟨X0, X1, B⟩ ?_
  clear X0 X1 B
  rintro V9 ⟨X0, X1, B⟩
  refine (szTape_fit _ x1 _ _ (by exact r1.below B) (by omega) (by omega) (by omega)).mono ?_
  rintro e w10 ⟨rfl, hb10⟩
  replace X0 := X0.keep hb10
  replace X1 := X1.keep hb10
  replace B := B.trans (hb10.mono B.size)
  have X0a := X0.at.1
  have X0l := X0.lt
  have X1a := X1.at.1
  have X1l := X1.lt
  go_wp2_with fail
  clear X0a X0l X1a X1l
  have X0S := X0.at.1
  have X1S := X1.at.1
  have hS : (∀ o, w10.cell? ⟨w.heap.size, o, none⟩ = (#[.slice p0_0 x0.length c0_0] : Array Value)[o]?) ∧ (∀ o, w10.cell? ⟨w.heap.size + 1, o, none⟩ = (#[.slice p1_0 x1.length c1_0] : Array Value)[o]?) := ⟨X0S, X1S⟩
  clear X0S X1S
  have tk0 : Hid True := trivial
  have tk1 : Hid True := trivial
  have tk2 : Hid True := trivial
  go_region_held3 (fun V => (∀ o, V.cell? ⟨w.heap.size, o, none⟩ = (#[.slice p0_0 x0.length c0_0] : Array Value)[o]?) ∧ (∀ o, V.cell? ⟨w.heap.size + 1, o, none⟩ = (#[.slice p1_0 x1.length c1_0] : Array Value)[o]?)) (first | exact hS | exact ⟨(X0.alloc _).at.1, (X1.alloc _).at.1⟩) (first | (go_at_call 11; have _t := tk0; clear _t tk0; refine Calls.at (F := fun V => Blk V (w.heap.size) 24 #[.slice p0_0 x0.length c0_0] ∧ Blk V (w.heap.size + 1) 24 #[.slice p1_0 x1.length c1_0] ∧ Below w.heap.size w V) ?_ ?_; (first | exact ⟨X0, X1, B⟩ | exact ⟨X0.drew, X1.drew, B.drew⟩); clear hS X0 X1 B; rintro V11 ⟨X0, X1, B⟩; refine (toTape_ow _ x0 _ (by exact r0.below B) (by omega)).mono ?_; rintro e w12 ⟨u, bw0a0_0, rfl, w0a0, fw0a0_0, hb12⟩; obtain ⟨pw0a0_0, cw0a0_0, rfl⟩ := w0a0.shp; have F_w0a0 : ∀ y ∈ bw0a0_0, V11.heap.size ≤ y := fw0a0_0; have nb_X0_w0a0 : w.heap.size ∉ bw0a0_0 := fun hm => Nat.not_lt.2 (F_w0a0 _ hm) X0.lt; have nb_X1_w0a0 : w.heap.size + 1 ∉ bw0a0_0 := fun hm => Nat.not_lt.2 (F_w0a0 _ hm) X1.lt; have G_w0a0 : ∀ y ∈ bw0a0_0, w.heap.size ≤ y := fun y hy => Nat.le_trans B.size (F_w0a0 y hy); clear F_w0a0; replace X0 := X0.keep hb12; replace X1 := X1.keep hb12; replace B := B.trans (hb12.mono B.size); have hS := (show (∀ o, w12.cell? ⟨w.heap.size, o, none⟩ = (#[.slice p0_0 x0.length c0_0] : Array Value)[o]?) ∧ (∀ o, w12.cell? ⟨w.heap.size + 1, o, none⟩ = (#[.slice p1_0 x1.length c1_0] : Array Value)[o]?) from ⟨X0.at.1, X1.at.1⟩)) | (go_at_call 11; have _t := tk1; clear _t tk1; refine Calls.at (F := fun V => Blk V (w.heap.size) 24 #[.slice p0_0 x0.length c0_0] ∧ Blk V (w.heap.size + 1) 24 #[.slice p1_0 x1.length c1_0] ∧ Below w.heap.size w V ∧ OwTape V (.agg #[.slice pw0a0_0 x0.length cw0a0_0]) x0 bw0a0_0) ?_ ?_; (first | exact ⟨X0, X1, B, w0a0⟩ | exact ⟨X0.drew, X1.drew, B.drew, w0a0.drew⟩); clear hS X0 X1 B w0a0; rintro V13 ⟨X0, X1, B, w0a0⟩; refine (toTape_ow _ x1 _ (by exact r1.below B) (by omega)).mono ?_; rintro e w14 ⟨u, bw0a1_0, rfl, w0a1, fw0a1_0, hb14⟩; obtain ⟨pw0a1_0, cw0a1_0, rfl⟩ := w0a1.shp; have F_w0a1 : ∀ y ∈ bw0a1_0, V13.heap.size ≤ y := fw0a1_0; have dj_w0a0_w0a1 : Dj bw0a0_0 bw0a1_0 := fun y hy hm => Nat.not_lt.2 (F_w0a1 y hm) (w0a0.lt y hy); have nb_X0_w0a1 : w.heap.size ∉ bw0a1_0 := fun hm => Nat.not_lt.2 (F_w0a1 _ hm) X0.lt; have nb_X1_w0a1 : w.heap.size + 1 ∉ bw0a1_0 := fun hm => Nat.not_lt.2 (F_w0a1 _ hm) X1.lt; have G_w0a1 : ∀ y ∈ bw0a1_0, w.heap.size ≤ y := fun y hy => Nat.le_trans B.size (F_w0a1 y hy); clear F_w0a1; replace X0 := X0.keep hb14; replace X1 := X1.keep hb14; replace w0a0 := w0a0.keep hb14; replace B := B.trans (hb14.mono B.size); have hS := (show (∀ o, w14.cell? ⟨w.heap.size, o, none⟩ = (#[.slice p0_0 x0.length c0_0] : Array Value)[o]?) ∧ (∀ o, w14.cell? ⟨w.heap.size + 1, o, none⟩ = (#[.slice p1_0 x1.length c1_0] : Array Value)[o]?) from ⟨X0.at.1, X1.at.1⟩)) | (go_at_call 10; have _t := tk2; clear _t tk2; refine Calls.at (F := fun V => Blk V (w.heap.size) 24 #[.slice p0_0 x0.length c0_0] ∧ Blk V (w.heap.size + 1) 24 #[.slice p1_0 x1.length c1_0] ∧ Below w.heap.size w V ∧ OwTape V (.agg #[.slice pw0a0_0 x0.length cw0a0_0]) x0 bw0a0_0 ∧ OwTape V (.agg #[.slice pw0a1_0 x1.length cw0a1_0]) x1 bw0a1_0) ?_ ?_; (first | exact ⟨X0, X1, B, w0a0, w0a1⟩ | exact ⟨X0.drew, X1.drew, B.drew, w0a0.drew, w0a1.drew⟩); clear hS X0 X1 B w0a0 w0a1; rintro V15 ⟨X0, X1, B, w0a0, w0a1⟩; refine (HS.out _ _ _ (by exact w0a0.rd) (by exact w0a1.rd)).mono ?_; rintro e w16 ⟨rfl, hb16⟩; replace X0 := X0.keep hb16; replace X1 := X1.keep hb16; replace w0a0 := w0a0.keep hb16; replace w0a1 := w0a1.keep hb16; replace B := B.trans (hb16.mono B.size); have hS := (show (∀ o, w16.cell? ⟨w.heap.size, o, none⟩ = (#[.slice p0_0 x0.length c0_0] : Array Value)[o]?) ∧ (∀ o, w16.cell? ⟨w.heap.size + 1, o, none⟩ = (#[.slice p1_0 x1.length c1_0] : Array Value)[o]?) from ⟨X0.at.1, X1.at.1⟩)))
  clear hS
  clear w0a0 G_w0a0
  clear w0a1 G_w0a1
  have X0a := X0.at.1
  have X0l := X0.lt
  have X1a := X1.at.1
  have X1l := X1.lt
  go_wp2_with fail
  clear X0a X0l X1a X1l
  refine Calls.at (F := fun V => Blk V (w.heap.size) 24 #[.slice p0_0 x0.length c0_0] ∧ Blk V (w.heap.size + 1) 24 #[.slice p1_0 x1.length c1_0] ∧ Below w.heap.size w V) ⟨X0, X1, B⟩ ?_
  clear X0 X1 B
  rintro V17 ⟨X0, X1, B⟩
  refine (toTape_ow _ x0 _ (by exact r0.below B) (by omega)).mono ?_
  rintro e w18 ⟨u, bx0c_0, rfl, x0c, fx0c_0, hb18⟩
  obtain ⟨px0c_0, cx0c_0, rfl⟩ := x0c.shp
  have F_x0c : ∀ y ∈ bx0c_0, V17.heap.size ≤ y := fx0c_0
  have nb_X0_x0c : w.heap.size ∉ bx0c_0 := fun hm => Nat.not_lt.2 (F_x0c _ hm) X0.lt
  have nb_X1_x0c : w.heap.size + 1 ∉ bx0c_0 := fun hm => Nat.not_lt.2 (F_x0c _ hm) X1.lt
  have G_x0c : ∀ y ∈ bx0c_0, w.heap.size ≤ y := fun y hy => Nat.le_trans B.size (F_x0c y hy)
  clear F_x0c
  replace X0 := X0.keep hb18
  replace X1 := X1.keep hb18
  replace B := B.trans (hb18.mono B.size)
  have X0a := X0.at.1
  have X0l := X0.lt
  have X1a := X1.at.1
  have X1l := X1.lt
  go_wp2_with fail
  clear X0a X0l X1a X1l
  have nb_Z0_x0c : w18.heap.size ∉ bx0c_0 := fun hm => Nat.lt_irrefl _ (x0c.lt _ hm)
  refine Calls.at (F := fun V => Blk V (w.heap.size) 24 #[.slice p0_0 x0.length c0_0] ∧ Blk V (w.heap.size + 1) 24 #[.slice p1_0 x1.length c1_0] ∧ Blk V (w18.heap.size) 27 #[.slice px0c_0 x0.length cx0c_0] ∧ Below w.heap.size w V ∧ OwTape V (.agg #[.slice px0c_0 x0.length cx0c_0]) x0 bx0c_0) ⟨X0.alloc _, X1.alloc _, Blk.new _ _ _, B.alloc B.size _, x0c.alloc _⟩ ?_
  clear X0 X1 B x0c
  rintro V19 ⟨X0, X1, Z0, B, x0c⟩
  refine (toTape_ow _ x1 _ (by exact r1.below B) (by omega)).mono ?_
  rintro e w20 ⟨u, bx1c_0, rfl, x1c, fx1c_0, hb20⟩
  obtain ⟨px1c_0, cx1c_0, rfl⟩ := x1c.shp
  have F_x1c : ∀ y ∈ bx1c_0, V19.heap.size ≤ y := fx1c_0
  have dj_x0c_x1c : Dj bx0c_0 bx1c_0 := fun y hy hm => Nat.not_lt.2 (F_x1c y hm) (x0c.lt y hy)
  have nb_X0_x1c : w.heap.size ∉ bx1c_0 := fun hm => Nat.not_lt.2 (F_x1c _ hm) X0.lt
  have nb_X1_x1c : w.heap.size + 1 ∉ bx1c_0 := fun hm => Nat.not_lt.2 (F_x1c _ hm) X1.lt
  have nb_Z0_x1c : w18.heap.size ∉ bx1c_0 := fun hm => Nat.not_lt.2 (F_x1c _ hm) Z0.lt
  have G_x1c : ∀ y ∈ bx1c_0, w.heap.size ≤ y := fun y hy => Nat.le_trans B.size (F_x1c y hy)
  clear F_x1c
  replace X0 := X0.keep hb20
  replace X1 := X1.keep hb20
  replace Z0 := Z0.keep hb20
  replace x0c := x0c.keep hb20
  replace B := B.trans (hb20.mono B.size)
  have X0a := X0.at.1
  have X0l := X0.lt
  have X1a := X1.at.1
  have X1l := X1.lt
  have Z0a := Z0.at.1
  have Z0l := Z0.lt
  go_wp2_with fail
  clear X0a X0l X1a X1l Z0a Z0l
  have nb_Z1_x0c : w20.heap.size ∉ bx0c_0 := fun hm => Nat.lt_irrefl _ (x0c.lt _ hm)
  have nb_Z1_x1c : w20.heap.size ∉ bx1c_0 := fun hm => Nat.lt_irrefl _ (x1c.lt _ hm)
  refine Calls.at (F := fun V => Blk V (w.heap.size) 24 #[.slice p0_0 x0.length c0_0] ∧ Blk V (w.heap.size + 1) 24 #[.slice p1_0 x1.length c1_0] ∧ Blk V (w18.heap.size) 27 #[.slice px0c_0 x0.length cx0c_0] ∧ Blk V (w20.heap.size) 27 #[.slice px1c_0 x1.length cx1c_0] ∧ Below w.heap.size w V ∧ OwTape V (.agg #[.slice px0c_0 x0.length cx0c_0]) x0 bx0c_0 ∧ OwTape V (.agg #[.slice px1c_0 x1.length cx1c_0]) x1 bx1c_0) ⟨X0.alloc _, X1.alloc _, Z0.alloc _, Blk.new _ _ _, B.alloc B.size _, x0c.alloc _, x1c.alloc _⟩ ?_
  clear X0 X1 Z0 B x0c x1c
  rintro V21 ⟨X0, X1, Z0, Z1, B, x0c, x1c⟩
  refine (HI.out _ _ _ (by exact x0c.rd) (by exact x1c.rd)).mono ?_
  rintro e w22 ⟨rfl, hb22⟩
  replace X0 := X0.keep hb22
  replace X1 := X1.keep hb22
  replace Z0 := Z0.keep hb22
  replace Z1 := Z1.keep hb22
  replace x0c := x0c.keep hb22
  replace x1c := x1c.keep hb22
  replace B := B.trans (hb22.mono B.size)
  have X0a := X0.at.1
  have X0l := X0.lt
  have X1a := X1.at.1
  have X1l := X1.lt
  have Z0a := Z0.at.1
  have Z0l := Z0.lt
  have Z1a := Z1.at.1
  have Z1l := Z1.lt
  go_wp2_with fail
  clear X0a X0l X1a X1l Z0a Z0l Z1a Z1l
  have Z0S := Z0.at.1
  have X0S := X0.at.1
  have hS : (∀ o, w22.cell? ⟨w18.heap.size, o, none⟩ = (#[.slice px0c_0 x0.length cx0c_0] : Array Value)[o]?) ∧ (∀ o, w22.cell? ⟨w.heap.size, o, none⟩ = (#[.slice p0_0 x0.length c0_0] : Array Value)[o]?) := ⟨Z0S, X0S⟩
  clear Z0S X0S
  have tk0 : Hid True := trivial
  have tk1 : Hid True := trivial
  go_region_held3 (fun V => (∀ o, V.cell? ⟨w18.heap.size, o, none⟩ = (#[.slice px0c_0 x0.length cx0c_0] : Array Value)[o]?) ∧ (∀ o, V.cell? ⟨w.heap.size, o, none⟩ = (#[.slice p0_0 x0.length c0_0] : Array Value)[o]?)) (first | exact hS | exact ⟨(Z0.alloc _).at.1, (X0.alloc _).at.1⟩) (first | (go_at_call 11; have _t := tk0; clear _t tk0; refine Calls.at (F := fun V => Blk V (w.heap.size) 24 #[.slice p0_0 x0.length c0_0] ∧ Blk V (w.heap.size + 1) 24 #[.slice p1_0 x1.length c1_0] ∧ Blk V (w18.heap.size) 27 #[.slice px0c_0 x0.length cx0c_0] ∧ Blk V (w20.heap.size) 27 #[.slice px1c_0 x1.length cx1c_0] ∧ Below w.heap.size w V ∧ OwTape V (.agg #[.slice px0c_0 x0.length cx0c_0]) x0 bx0c_0 ∧ OwTape V (.agg #[.slice px1c_0 x1.length cx1c_0]) x1 bx1c_0) ?_ ?_; (first | exact ⟨X0, X1, Z0, Z1, B, x0c, x1c⟩ | exact ⟨X0.drew, X1.drew, Z0.drew, Z1.drew, B.drew, x0c.drew, x1c.drew⟩); clear hS X0 X1 Z0 Z1 B x0c x1c; rintro V23 ⟨X0, X1, Z0, Z1, B, x0c, x1c⟩; refine (toTape_ow _ x0 _ (by exact r0.below B) (by omega)).mono ?_; rintro e w24 ⟨u, by0_0, rfl, y0, fy0_0, hb24⟩; obtain ⟨py0_0, cy0_0, rfl⟩ := y0.shp; have F_y0 : ∀ y ∈ by0_0, V23.heap.size ≤ y := fy0_0; have dj_x0c_y0 : Dj bx0c_0 by0_0 := fun y hy hm => Nat.not_lt.2 (F_y0 y hm) (x0c.lt y hy); have dj_x1c_y0 : Dj bx1c_0 by0_0 := fun y hy hm => Nat.not_lt.2 (F_y0 y hm) (x1c.lt y hy); have nb_X0_y0 : w.heap.size ∉ by0_0 := fun hm => Nat.not_lt.2 (F_y0 _ hm) X0.lt; have nb_X1_y0 : w.heap.size + 1 ∉ by0_0 := fun hm => Nat.not_lt.2 (F_y0 _ hm) X1.lt; have nb_Z0_y0 : w18.heap.size ∉ by0_0 := fun hm => Nat.not_lt.2 (F_y0 _ hm) Z0.lt; have nb_Z1_y0 : w20.heap.size ∉ by0_0 := fun hm => Nat.not_lt.2 (F_y0 _ hm) Z1.lt; have G_y0 : ∀ y ∈ by0_0, w.heap.size ≤ y := fun y hy => Nat.le_trans B.size (F_y0 y hy); clear F_y0; replace X0 := X0.keep hb24; replace X1 := X1.keep hb24; replace Z0 := Z0.keep hb24; replace Z1 := Z1.keep hb24; replace x0c := x0c.keep hb24; replace x1c := x1c.keep hb24; replace B := B.trans (hb24.mono B.size); have hS := (show (∀ o, w24.cell? ⟨w18.heap.size, o, none⟩ = (#[.slice px0c_0 x0.length cx0c_0] : Array Value)[o]?) ∧ (∀ o, w24.cell? ⟨w.heap.size, o, none⟩ = (#[.slice p0_0 x0.length c0_0] : Array Value)[o]?) from ⟨Z0.at.1, X0.at.1⟩)) | (go_at_call 13; have _t := tk1; clear _t tk1; refine Calls.at (F := fun V => Blk V (w.heap.size) 24 #[.slice p0_0 x0.length c0_0] ∧ Blk V (w.heap.size + 1) 24 #[.slice p1_0 x1.length c1_0] ∧ Blk V (w18.heap.size) 27 #[.slice px0c_0 x0.length cx0c_0] ∧ Blk V (w20.heap.size) 27 #[.slice px1c_0 x1.length cx1c_0] ∧ Below w.heap.size w V ∧ OwTape V (.agg #[.slice px0c_0 x0.length cx0c_0]) x0 bx0c_0 ∧ OwTape V (.agg #[.slice px1c_0 x1.length cx1c_0]) x1 bx1c_0 ∧ OwTape V (.agg #[.slice py0_0 x0.length cy0_0]) x0 by0_0) ?_ ?_; (first | exact ⟨X0, X1, Z0, Z1, B, x0c, x1c, y0⟩ | exact ⟨X0.drew, X1.drew, Z0.drew, Z1.drew, B.drew, x0c.drew, x1c.drew, y0.drew⟩); clear hS X0 X1 Z0 Z1 B x0c x1c y0; rintro V25 ⟨X0, X1, Z0, Z1, B, x0c, x1c, y0⟩; refine (eqTape_rd _ _ x0 _ (by exact x0c.rd) (by exact y0.rd)).mono ?_; rintro e w26 ⟨rfl, hb26⟩; replace X0 := X0.keep hb26; replace X1 := X1.keep hb26; replace Z0 := Z0.keep hb26; replace Z1 := Z1.keep hb26; replace x0c := x0c.keep hb26; replace x1c := x1c.keep hb26; replace y0 := y0.keep hb26; replace B := B.trans (hb26.mono B.size); have hS := (show (∀ o, w26.cell? ⟨w18.heap.size, o, none⟩ = (#[.slice px0c_0 x0.length cx0c_0] : Array Value)[o]?) ∧ (∀ o, w26.cell? ⟨w.heap.size, o, none⟩ = (#[.slice p0_0 x0.length c0_0] : Array Value)[o]?) from ⟨Z0.at.1, X0.at.1⟩)))
  clear hS
  clear y0 G_y0
  have X0a := X0.at.1
  have X0l := X0.lt
  have X1a := X1.at.1
  have X1l := X1.lt
  have Z0a := Z0.at.1
  have Z0l := Z0.lt
  have Z1a := Z1.at.1
  have Z1l := Z1.lt
  go_wp2_with fail
  clear X0a X0l X1a X1l Z0a Z0l Z1a Z1l
  have Z1S := Z1.at.1
  have X1S := X1.at.1
  have hS : (∀ o, w26.cell? ⟨w20.heap.size, o, none⟩ = (#[.slice px1c_0 x1.length cx1c_0] : Array Value)[o]?) ∧ (∀ o, w26.cell? ⟨w.heap.size + 1, o, none⟩ = (#[.slice p1_0 x1.length c1_0] : Array Value)[o]?) := ⟨Z1S, X1S⟩
  clear Z1S X1S
  have tk0 : Hid True := trivial
  have tk1 : Hid True := trivial
  go_region_held3 (fun V => (∀ o, V.cell? ⟨w20.heap.size, o, none⟩ = (#[.slice px1c_0 x1.length cx1c_0] : Array Value)[o]?) ∧ (∀ o, V.cell? ⟨w.heap.size + 1, o, none⟩ = (#[.slice p1_0 x1.length c1_0] : Array Value)[o]?)) (first | exact hS | exact ⟨(Z1.alloc _).at.1, (X1.alloc _).at.1⟩) (first | (go_at_call 11; have _t := tk0; clear _t tk0; refine Calls.at (F := fun V => Blk V (w.heap.size) 24 #[.slice p0_0 x0.length c0_0] ∧ Blk V (w.heap.size + 1) 24 #[.slice p1_0 x1.length c1_0] ∧ Blk V (w18.heap.size) 27 #[.slice px0c_0 x0.length cx0c_0] ∧ Blk V (w20.heap.size) 27 #[.slice px1c_0 x1.length cx1c_0] ∧ Below w.heap.size w V ∧ OwTape V (.agg #[.slice px0c_0 x0.length cx0c_0]) x0 bx0c_0 ∧ OwTape V (.agg #[.slice px1c_0 x1.length cx1c_0]) x1 bx1c_0) ?_ ?_; (first | exact ⟨X0, X1, Z0, Z1, B, x0c, x1c⟩ | exact ⟨X0.drew, X1.drew, Z0.drew, Z1.drew, B.drew, x0c.drew, x1c.drew⟩); clear hS X0 X1 Z0 Z1 B x0c x1c; rintro V27 ⟨X0, X1, Z0, Z1, B, x0c, x1c⟩; refine (toTape_ow _ x1 _ (by exact r1.below B) (by omega)).mono ?_; rintro e w28 ⟨u, by1_0, rfl, y1, fy1_0, hb28⟩; obtain ⟨py1_0, cy1_0, rfl⟩ := y1.shp; have F_y1 : ∀ y ∈ by1_0, V27.heap.size ≤ y := fy1_0; have dj_x0c_y1 : Dj bx0c_0 by1_0 := fun y hy hm => Nat.not_lt.2 (F_y1 y hm) (x0c.lt y hy); have dj_x1c_y1 : Dj bx1c_0 by1_0 := fun y hy hm => Nat.not_lt.2 (F_y1 y hm) (x1c.lt y hy); have nb_X0_y1 : w.heap.size ∉ by1_0 := fun hm => Nat.not_lt.2 (F_y1 _ hm) X0.lt; have nb_X1_y1 : w.heap.size + 1 ∉ by1_0 := fun hm => Nat.not_lt.2 (F_y1 _ hm) X1.lt; have nb_Z0_y1 : w18.heap.size ∉ by1_0 := fun hm => Nat.not_lt.2 (F_y1 _ hm) Z0.lt; have nb_Z1_y1 : w20.heap.size ∉ by1_0 := fun hm => Nat.not_lt.2 (F_y1 _ hm) Z1.lt; have G_y1 : ∀ y ∈ by1_0, w.heap.size ≤ y := fun y hy => Nat.le_trans B.size (F_y1 y hy); clear F_y1; replace X0 := X0.keep hb28; replace X1 := X1.keep hb28; replace Z0 := Z0.keep hb28; replace Z1 := Z1.keep hb28; replace x0c := x0c.keep hb28; replace x1c := x1c.keep hb28; replace B := B.trans (hb28.mono B.size); have hS := (show (∀ o, w28.cell? ⟨w20.heap.size, o, none⟩ = (#[.slice px1c_0 x1.length cx1c_0] : Array Value)[o]?) ∧ (∀ o, w28.cell? ⟨w.heap.size + 1, o, none⟩ = (#[.slice p1_0 x1.length c1_0] : Array Value)[o]?) from ⟨Z1.at.1, X1.at.1⟩)) | (go_at_call 13; have _t := tk1; clear _t tk1; refine Calls.at (F := fun V => Blk V (w.heap.size) 24 #[.slice p0_0 x0.length c0_0] ∧ Blk V (w.heap.size + 1) 24 #[.slice p1_0 x1.length c1_0] ∧ Blk V (w18.heap.size) 27 #[.slice px0c_0 x0.length cx0c_0] ∧ Blk V (w20.heap.size) 27 #[.slice px1c_0 x1.length cx1c_0] ∧ Below w.heap.size w V ∧ OwTape V (.agg #[.slice px0c_0 x0.length cx0c_0]) x0 bx0c_0 ∧ OwTape V (.agg #[.slice px1c_0 x1.length cx1c_0]) x1 bx1c_0 ∧ OwTape V (.agg #[.slice py1_0 x1.length cy1_0]) x1 by1_0) ?_ ?_; (first | exact ⟨X0, X1, Z0, Z1, B, x0c, x1c, y1⟩ | exact ⟨X0.drew, X1.drew, Z0.drew, Z1.drew, B.drew, x0c.drew, x1c.drew, y1.drew⟩); clear hS X0 X1 Z0 Z1 B x0c x1c y1; rintro V29 ⟨X0, X1, Z0, Z1, B, x0c, x1c, y1⟩; refine (eqTape_rd _ _ x1 _ (by exact x1c.rd) (by exact y1.rd)).mono ?_; rintro e w30 ⟨rfl, hb30⟩; replace X0 := X0.keep hb30; replace X1 := X1.keep hb30; replace Z0 := Z0.keep hb30; replace Z1 := Z1.keep hb30; replace x0c := x0c.keep hb30; replace x1c := x1c.keep hb30; replace y1 := y1.keep hb30; replace B := B.trans (hb30.mono B.size); have hS := (show (∀ o, w30.cell? ⟨w20.heap.size, o, none⟩ = (#[.slice px1c_0 x1.length cx1c_0] : Array Value)[o]?) ∧ (∀ o, w30.cell? ⟨w.heap.size + 1, o, none⟩ = (#[.slice p1_0 x1.length c1_0] : Array Value)[o]?) from ⟨Z1.at.1, X1.at.1⟩)))
  clear hS
  clear y1 G_y1
  have X0a := X0.at.1
  have X0l := X0.lt
  have X1a := X1.at.1
  have X1l := X1.lt
  have Z0a := Z0.at.1
  have Z0l := Z0.lt
  have Z1a := Z1.at.1
  have Z1l := Z1.lt
  go_wp2
  go_ret
  exact ⟨rfl, B⟩
/-! the row's step -/
set_option maxRecDepth 100000 in
theorem lifted (os : Os) (started : os.Started) (H : Type) (enc : TypeId × Value → H) :
    ReturnsInHanded {} Try.checked os 3 .any (Rows.fnExactSameTapesSpec.pre6 enc Try.prog Try.f3 Rows.fnExactSameTapesRow.domain false) (Rows.fnExactSameTapesSpec.post enc Try.prog Try.f3 false true false false) := by
  refine returnsInHanded_of_change (C := Try.checked) own started (by kernel_rfl) Try.func3
    (ChangeSpec.witness6 (enc := enc) (C := Try.checked) false ⟨#[], #[.agg #[.slice none 0 0], .agg #[.slice none 0 0]], []⟩ 8 (by kernel_rfl) (by kernel_rfl) (by kernel_rfl) (by kernel_rfl)) ?_
  intro W base args ds gs before hval0 hW hcnd _
  have hval : ∀ (j : Nat) t v, Try.f3.params[j]? = some t → args[j]? = some v → Value.okWide Try.prog W .any base t v := hval0
  have hW' := hW
  obtain ⟨p, q, hA0, hV, rfl, hfz, hnd⟩ := hW
  have hA : DataW.TrodAll enc Try.prog W 0 (fun _ => true) true Try.f3.params.toList args.toList ds p := hA0
  rw [Try.params3] at hA hval
  obtain ⟨v0, vs0, d0, ds0, p0, q0, hargs, rfl, rfl, h0, r0⟩ := trodAll_cons hA
  obtain ⟨v1, vs1, d1, ds1, p1, q1, rfl, rfl, rfl, h1, r1⟩ := trodAll_cons r0
  obtain ⟨rfl, rfl, rfl⟩ := trodAll_nil r1
  obtain rfl : args = #[v0, v1] := by cases args; simp_all
  obtain ⟨rfl, rfl⟩ := trodVars_none hV
  have k0 := h0
  have lt0 : ∀ x ∈ p0, x.block < W.heap.size := by obtain ⟨m, hm⟩ := k0; exact DataW.trod_lt m _ _ _ hm
  obtain ⟨cs0, rfl, _⟩ := okWide_struct Try.underlying24 (hval 0 24 v0 rfl rfl)
  obtain ⟨x0, w0⟩ : ∃ y, RdTape W (.agg cs0) y := by
    obtain ⟨fuel, hf⟩ := h0
    obtain ⟨y, q⟩ := open_Tape hf
    exact ⟨y, by simpa [Value.cells] using q⟩
  have k1 := h1
  have lt1 : ∀ x ∈ p1, x.block < W.heap.size := by obtain ⟨m, hm⟩ := k1; exact DataW.trod_lt m _ _ _ hm
  obtain ⟨cs1, rfl, _⟩ := okWide_struct Try.underlying24 (hval 1 24 v1 rfl rfl)
  obtain ⟨x1, w1⟩ : ∃ y, RdTape W (.agg cs1) y := by
    obtain ⟨fuel, hf⟩ := h1
    obtain ⟨y, q⟩ := open_Tape hf
    exact ⟨y, by simpa [Value.cells] using q⟩
  clear hA0 hval0
  refine (walk _ x0 _ x1 W w0 w1).mono fun e W' ⟨he, bel⟩ => ?_
  subst he
  exact ⟨_, rfl, _, _, _, [], _, [], hW', trodAll_mk1 (shut_bool Try.underlying4 _), (trodAll_cons_mk (Below.trod laidOut (by kernel_rfl) (of_decide_eq_true (by kernel_rfl)) k0 bel lt0) (trodAll_cons_mk (Below.trod laidOut (by kernel_rfl) (of_decide_eq_true (by kernel_rfl)) k1 bel lt1) trodAll_mk0)), rfl, bel.frame _, fun h => by cases h⟩

theorem over : Rows.fnExactSameTapesRow.holds Try.pinned (OpenSpec.ofChange Rows.fnExactSameTapesSpec) :=
  OpenClaim.holds_of_wide 3 Try.f3 rfl rfl rfl rfl rfl rfl rfl ⟨rfl, rfl, rfl, rfl, rfl⟩ rfl rfl rfl rfl rfl (by kernel_rfl) Try.func3 (by kernel_rfl)
    (of_decide_eq_true (by kernel_rfl)) (by unfold Func.isWrapper; first | (rw [if_pos (by decide +kernel)]; kernel_rfl) | (rw [if_neg (by decide +kernel)]; exact ⟨rfl, rfl⟩))
    (fun os started H enc _ => lifted os started H enc)

end Go.Proofs.Ytadppilldijijai.fnExactSameTapes
namespace Go.Proofs.Ytadppilldijijai
theorem fnExactSameTapes_holds : Rows.FnExactSameTapesSaid := fnExactSameTapes.over
#print axioms fnExactSameTapes_holds
end Go.Proofs.Ytadppilldijijai
