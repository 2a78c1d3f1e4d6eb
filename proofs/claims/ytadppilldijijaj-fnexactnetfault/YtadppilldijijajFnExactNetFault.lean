/-
  FnExactNetFault answers true at every net: the program's NetFault answers as its model does, and writes into no argument.
-/
import Derived.Test.YtadppilldijijajOpen
import Derived.Test.YtadppilldijijajJnN
import Derived.Test.YtadppilldijijajOpen
import Derived.Test.YtadppilldijijajOpen
import Derived.Deep.RegionHeld3
import Derived.Deep.CutRange
import Derived.Deep.Cut
import Derived.Deep.RegionWith
import Derived.ShutString
import Derived.ChangeOld
import Derived.Below
namespace Go.Proofs.Ytadppilldijijaj.fnExactNetFault
open Go.ChangeShapes Go.WideShapes Go.ChangeAt Go.RowKit
open Go.ChangeMaps (open_string shut_string)
set_option linter.unusedVariables false

theorem own : ownKnob Try.prog.godebug = none := by kernel_rfl
theorem laidOut : laidOutB Try.prog = true := by kernel_rfl

set_option maxHeartbeats 4000000 in
set_option maxRecDepth 100000 in
theorem walk (v0 : Value) (x0 : MNet) (w : World) (r0 : RdNet w (v0) x0) :
    Calls Try.prog 6 #[v0] w fun e w' => e = .returned (.bool true) ∧ Below w.heap.size w w' := by
  obtain ⟨p0_0, c0_0, p0_1, c0_1, p0_2, c0_2, hv0, r0_0, r0_1, r0_2⟩ := r0
  subst hv0
  have r0 : RdNet w (.agg #[.slice p0_0 x0.xTape.length c0_0, .slice p0_1 x0.xUsed.length c0_1, .int .i64 x0.xSent, .slice p0_2 x0.xHeard.length c0_2, .int .i64 x0.xCheat.xWho, .int .i64 x0.xCheat.xAt, .int .i64 x0.xCheat.xBy, .bool x0.xCheat.xCry, .bool x0.xQuarrel.xSome, .int .i64 x0.xQuarrel.xFrom, .int .i64 x0.xQuarrel.xCheck, .int .i64 x0.xQuarrel.xTo, .int .i64 x0.xQuarrel.xTold, .int .i64 x0.xQuarrel.xHeard, .int .i64 x0.xQuarrel.xOther, .int .i64 x0.xQuarrel.xVowed]) x0 := ⟨p0_0, c0_0, p0_1, c0_1, p0_2, c0_2, rfl, r0_0, r0_1, r0_2⟩
  clear r0_0 r0_1 r0_2
  by_cases s0 : (1048576 : Int) < (totNet x0 : Nat)
  · skip
    go_enter Try.func6, Try.ntmps6
    go_wp2_with fail
    refine Calls.at (F := fun V => Blk V (w.heap.size) 48 #[.slice p0_0 x0.xTape.length c0_0, .slice p0_1 x0.xUsed.length c0_1, .int .i64 x0.xSent, .slice p0_2 x0.xHeard.length c0_2, .int .i64 x0.xCheat.xWho, .int .i64 x0.xCheat.xAt, .int .i64 x0.xCheat.xBy, .bool x0.xCheat.xCry, .bool x0.xQuarrel.xSome, .int .i64 x0.xQuarrel.xFrom, .int .i64 x0.xQuarrel.xCheck, .int .i64 x0.xQuarrel.xTo, .int .i64 x0.xQuarrel.xTold, .int .i64 x0.xQuarrel.xHeard, .int .i64 x0.xQuarrel.xOther, .int .i64 x0.xQuarrel.xVowed] ∧ Below w.heap.size w V) ⟨?_, ?_⟩ ?_
    · exact (Blk.new w 48 #[.slice p0_0 x0.xTape.length c0_0, .slice p0_1 x0.xUsed.length c0_1, .int .i64 x0.xSent, .slice p0_2 x0.xHeard.length c0_2, .int .i64 x0.xCheat.xWho, .int .i64 x0.xCheat.xAt, .int .i64 x0.xCheat.xBy, .bool x0.xCheat.xCry, .bool x0.xQuarrel.xSome, .int .i64 x0.xQuarrel.xFrom, .int .i64 x0.xQuarrel.xCheck, .int .i64 x0.xQuarrel.xTo, .int .i64 x0.xQuarrel.xTold, .int .i64 x0.xQuarrel.xHeard, .int .i64 x0.xQuarrel.xOther, .int .i64 x0.xQuarrel.xVowed])
    · exact (by repeat (first | exact Below.refl _ _ | refine Below.drew ?_ | refine below_drewN ?_ _ | refine Below.setCell ?_ (by first | omega | (simp; done) | (simp; omega)) _ | refine Below.alloc ?_ (by first | omega | (simp; done) | (simp; omega)) _))
    rintro V1 ⟨X0, B⟩
    as_aux_lemma =>
      refine (szNet_over _ x0 _ _ (by exact r0.below B) (by omega) (by omega) (by omega)).mono ?_
      rintro e w2 ⟨rfl, hb2⟩
      replace X0 := X0.keep hb2
      replace B := B.trans (hb2.mono B.size)
      go_wp2
      go_ret
      exact ⟨rfl, B⟩
  have hc0 := cntNet_le x0
  have KS : ∀ (V : World) (u0 : Value), RdNet V (u0) x0 → Calls Try.prog 23 #[u0] V fun e V' => e = .returned (.int .i64 (netC x0)) ∧ Below V.heap.size V V' := fun V u0 h => spec_NetFault _ _ _ h
  have KI : ∀ (V : World) (u0 : Value), RdNet V (u0) x0 → Calls Try.prog 25 #[u0] V fun e V' => e = .returned (.int .i64 (netC x0)) ∧ Below V.heap.size V V' := fun V u0 h => impl_NetFault _ _ _ h
  obtain ⟨r, HS, HI⟩ : ∃ r : Int, Hid (∀ (V : World) (u0 : Value), RdNet V (u0) x0 → Calls Try.prog 23 #[u0] V fun e V' => e = .returned (.int .i64 r) ∧ Below V.heap.size V V') ∧ Hid (∀ (V : World) (u0 : Value), RdNet V (u0) x0 → Calls Try.prog 25 #[u0] V fun e V' => e = .returned (.int .i64 r) ∧ Below V.heap.size V V') := ⟨netC x0, KS, KI⟩
  clear KS KI
  go_enter Try.func6, Try.ntmps6
  go_wp2_with fail
  refine Calls.at (F := fun V => Blk V (w.heap.size) 48 #[.slice p0_0 x0.xTape.length c0_0, .slice p0_1 x0.xUsed.length c0_1, .int .i64 x0.xSent, .slice p0_2 x0.xHeard.length c0_2, .int .i64 x0.xCheat.xWho, .int .i64 x0.xCheat.xAt, .int .i64 x0.xCheat.xBy, .bool x0.xCheat.xCry, .bool x0.xQuarrel.xSome, .int .i64 x0.xQuarrel.xFrom, .int .i64 x0.xQuarrel.xCheck, .int .i64 x0.xQuarrel.xTo, .int .i64 x0.xQuarrel.xTold, .int .i64 x0.xQuarrel.xHeard, .int .i64 x0.xQuarrel.xOther, .int .i64 x0.xQuarrel.xVowed] ∧ Below w.heap.size w V) ⟨?_, ?_⟩ ?_
  · exact (Blk.new w 48 #[.slice p0_0 x0.xTape.length c0_0, .slice p0_1 x0.xUsed.length c0_1, .int .i64 x0.xSent, .slice p0_2 x0.xHeard.length c0_2, .int .i64 x0.xCheat.xWho, .int .i64 x0.xCheat.xAt, .int .i64 x0.xCheat.xBy, .bool x0.xCheat.xCry, .bool x0.xQuarrel.xSome, .int .i64 x0.xQuarrel.xFrom, .int .i64 x0.xQuarrel.xCheck, .int .i64 x0.xQuarrel.xTo, .int .i64 x0.xQuarrel.xTold, .int .i64 x0.xQuarrel.xHeard, .int .i64 x0.xQuarrel.xOther, .int .i64 x0.xQuarrel.xVowed])
  · exact (by repeat (first | exact Below.refl _ _ | refine Below.drew ?_ | refine below_drewN ?_ _ | refine Below.setCell ?_ (by first | omega | (simp; done) | (simp; omega)) _ | refine Below.alloc ?_ (by first | omega | (simp; done) | (simp; omega)) _))
  rintro V3 ⟨X0, B⟩
  as_aux_lemma =>
    refine (szNet_fit _ x0 _ _ (by exact r0.below B) (by omega) (by omega) (by omega)).mono ?_
    rintro e w4 ⟨rfl, hb4⟩
    replace X0 := X0.keep hb4
    replace B := B.trans (hb4.mono B.size)
    have X0a := X0.at.1
    have X0l := X0.lt
    go_wp2_with fail
    clear X0a X0l
    refine Calls.at (F := fun V => Blk V (w.heap.size) 48 #[.slice p0_0 x0.xTape.length c0_0, .slice p0_1 x0.xUsed.length c0_1, .int .i64 x0.xSent, .slice p0_2 x0.xHeard.length c0_2, .int .i64 x0.xCheat.xWho, .int .i64 x0.xCheat.xAt, .int .i64 x0.xCheat.xBy, .bool x0.xCheat.xCry, .bool x0.xQuarrel.xSome, .int .i64 x0.xQuarrel.xFrom, .int .i64 x0.xQuarrel.xCheck, .int .i64 x0.xQuarrel.xTo, .int .i64 x0.xQuarrel.xTold, .int .i64 x0.xQuarrel.xHeard, .int .i64 x0.xQuarrel.xOther, .int .i64 x0.xQuarrel.xVowed] ∧ Below w.heap.size w V) ⟨X0, B⟩ ?_
    clear X0 B
    rintro V5 ⟨X0, B⟩
    as_aux_lemma =>
      refine (toNet_ow _ x0 _ (by exact r0.below B) (by omega)).mono ?_
      rintro e w6 ⟨u, bw0a0_0, bw0a0_1, bw0a0_2, rfl, w0a0, fw0a0_0, fw0a0_1, fw0a0_2, hb6⟩
      obtain ⟨pw0a0_0, cw0a0_0, pw0a0_1, cw0a0_1, pw0a0_2, cw0a0_2, rfl⟩ := w0a0.shp
      have F_w0a0 : ∀ y ∈ (bw0a0_0 ++ (bw0a0_1 ++ bw0a0_2)), V5.heap.size ≤ y := all_app fw0a0_0 (all_app fw0a0_1 fw0a0_2)
      have nb_X0_w0a0 : w.heap.size ∉ (bw0a0_0 ++ (bw0a0_1 ++ bw0a0_2)) := fun hm => Nat.not_lt.2 (F_w0a0 _ hm) X0.lt
      have G_w0a0 : ∀ y ∈ (bw0a0_0 ++ (bw0a0_1 ++ bw0a0_2)), w.heap.size ≤ y := fun y hy => Nat.le_trans B.size (F_w0a0 y hy)
      clear F_w0a0
      replace X0 := X0.keep hb6
      replace B := B.trans (hb6.mono B.size)
      have X0a := X0.at.1
      have X0l := X0.lt
      go_wp2_with fail
      clear X0a X0l
      refine Calls.at (F := fun V => Blk V (w.heap.size) 48 #[.slice p0_0 x0.xTape.length c0_0, .slice p0_1 x0.xUsed.length c0_1, .int .i64 x0.xSent, .slice p0_2 x0.xHeard.length c0_2, .int .i64 x0.xCheat.xWho, .int .i64 x0.xCheat.xAt, .int .i64 x0.xCheat.xBy, .bool x0.xCheat.xCry, .bool x0.xQuarrel.xSome, .int .i64 x0.xQuarrel.xFrom, .int .i64 x0.xQuarrel.xCheck, .int .i64 x0.xQuarrel.xTo, .int .i64 x0.xQuarrel.xTold, .int .i64 x0.xQuarrel.xHeard, .int .i64 x0.xQuarrel.xOther, .int .i64 x0.xQuarrel.xVowed] ∧ Below w.heap.size w V ∧ OwNet V (.agg #[.slice pw0a0_0 x0.xTape.length cw0a0_0, .slice pw0a0_1 x0.xUsed.length cw0a0_1, .int .i64 x0.xSent, .slice pw0a0_2 x0.xHeard.length cw0a0_2, .int .i64 x0.xCheat.xWho, .int .i64 x0.xCheat.xAt, .int .i64 x0.xCheat.xBy, .bool x0.xCheat.xCry, .bool x0.xQuarrel.xSome, .int .i64 x0.xQuarrel.xFrom, .int .i64 x0.xQuarrel.xCheck, .int .i64 x0.xQuarrel.xTo, .int .i64 x0.xQuarrel.xTold, .int .i64 x0.xQuarrel.xHeard, .int .i64 x0.xQuarrel.xOther, .int .i64 x0.xQuarrel.xVowed]) x0 bw0a0_0 bw0a0_1 bw0a0_2) ⟨X0, B, w0a0⟩ ?_
      clear X0 B w0a0
      rintro V7 ⟨X0, B, w0a0⟩
      as_aux_lemma =>
        refine (HS.out _ _ (by exact w0a0.rd)).mono ?_
        rintro e w8 ⟨rfl, hb8⟩
        replace X0 := X0.keep hb8
        replace w0a0 := w0a0.keep hb8
        replace B := B.trans (hb8.mono B.size)
        clear w0a0 G_w0a0
        have X0a := X0.at.1
        have X0l := X0.lt
        go_wp2_with fail
        clear X0a X0l
        refine Calls.at (F := fun V => Blk V (w.heap.size) 48 #[.slice p0_0 x0.xTape.length c0_0, .slice p0_1 x0.xUsed.length c0_1, .int .i64 x0.xSent, .slice p0_2 x0.xHeard.length c0_2, .int .i64 x0.xCheat.xWho, .int .i64 x0.xCheat.xAt, .int .i64 x0.xCheat.xBy, .bool x0.xCheat.xCry, .bool x0.xQuarrel.xSome, .int .i64 x0.xQuarrel.xFrom, .int .i64 x0.xQuarrel.xCheck, .int .i64 x0.xQuarrel.xTo, .int .i64 x0.xQuarrel.xTold, .int .i64 x0.xQuarrel.xHeard, .int .i64 x0.xQuarrel.xOther, .int .i64 x0.xQuarrel.xVowed] ∧ Below w.heap.size w V) ⟨X0, B⟩ ?_
        clear X0 B
        rintro V9 ⟨X0, B⟩
        as_aux_lemma =>
          refine (toNet_ow _ x0 _ (by exact r0.below B) (by omega)).mono ?_
          rintro e w10 ⟨u, bx0c_0, bx0c_1, bx0c_2, rfl, x0c, fx0c_0, fx0c_1, fx0c_2, hb10⟩
          obtain ⟨px0c_0, cx0c_0, px0c_1, cx0c_1, px0c_2, cx0c_2, rfl⟩ := x0c.shp
          have F_x0c : ∀ y ∈ (bx0c_0 ++ (bx0c_1 ++ bx0c_2)), V9.heap.size ≤ y := all_app fx0c_0 (all_app fx0c_1 fx0c_2)
          have nb_X0_x0c : w.heap.size ∉ (bx0c_0 ++ (bx0c_1 ++ bx0c_2)) := fun hm => Nat.not_lt.2 (F_x0c _ hm) X0.lt
          have G_x0c : ∀ y ∈ (bx0c_0 ++ (bx0c_1 ++ bx0c_2)), w.heap.size ≤ y := fun y hy => Nat.le_trans B.size (F_x0c y hy)
          clear F_x0c
          replace X0 := X0.keep hb10
          replace B := B.trans (hb10.mono B.size)
          have X0a := X0.at.1
          have X0l := X0.lt
          go_wp2_with fail
          clear X0a X0l
          have nb_Z0_x0c : w10.heap.size ∉ (bx0c_0 ++ (bx0c_1 ++ bx0c_2)) := fun hm => Nat.lt_irrefl _ (x0c.lt _ hm)
          refine Calls.at (F := fun V => Blk V (w.heap.size) 48 #[.slice p0_0 x0.xTape.length c0_0, .slice p0_1 x0.xUsed.length c0_1, .int .i64 x0.xSent, .slice p0_2 x0.xHeard.length c0_2, .int .i64 x0.xCheat.xWho, .int .i64 x0.xCheat.xAt, .int .i64 x0.xCheat.xBy, .bool x0.xCheat.xCry, .bool x0.xQuarrel.xSome, .int .i64 x0.xQuarrel.xFrom, .int .i64 x0.xQuarrel.xCheck, .int .i64 x0.xQuarrel.xTo, .int .i64 x0.xQuarrel.xTold, .int .i64 x0.xQuarrel.xHeard, .int .i64 x0.xQuarrel.xOther, .int .i64 x0.xQuarrel.xVowed] ∧ Blk V (w10.heap.size) 55 #[.slice px0c_0 x0.xTape.length cx0c_0, .slice px0c_1 x0.xUsed.length cx0c_1, .int .i64 x0.xSent, .slice px0c_2 x0.xHeard.length cx0c_2, .int .i64 x0.xCheat.xWho, .int .i64 x0.xCheat.xAt, .int .i64 x0.xCheat.xBy, .bool x0.xCheat.xCry, .bool x0.xQuarrel.xSome, .int .i64 x0.xQuarrel.xFrom, .int .i64 x0.xQuarrel.xCheck, .int .i64 x0.xQuarrel.xTo, .int .i64 x0.xQuarrel.xTold, .int .i64 x0.xQuarrel.xHeard, .int .i64 x0.xQuarrel.xOther, .int .i64 x0.xQuarrel.xVowed] ∧ Below w.heap.size w V ∧ OwNet V (.agg #[.slice px0c_0 x0.xTape.length cx0c_0, .slice px0c_1 x0.xUsed.length cx0c_1, .int .i64 x0.xSent, .slice px0c_2 x0.xHeard.length cx0c_2, .int .i64 x0.xCheat.xWho, .int .i64 x0.xCheat.xAt, .int .i64 x0.xCheat.xBy, .bool x0.xCheat.xCry, .bool x0.xQuarrel.xSome, .int .i64 x0.xQuarrel.xFrom, .int .i64 x0.xQuarrel.xCheck, .int .i64 x0.xQuarrel.xTo, .int .i64 x0.xQuarrel.xTold, .int .i64 x0.xQuarrel.xHeard, .int .i64 x0.xQuarrel.xOther, .int .i64 x0.xQuarrel.xVowed]) x0 bx0c_0 bx0c_1 bx0c_2) ⟨X0.alloc _, Blk.new _ _ _, B.alloc B.size _, x0c.alloc _⟩ ?_
          clear X0 B x0c
          rintro V11 ⟨X0, Z0, B, x0c⟩
          as_aux_lemma =>
            refine (HI.out _ _ (by exact x0c.rd)).mono ?_
            rintro e w12 ⟨rfl, hb12⟩
            replace X0 := X0.keep hb12
            replace Z0 := Z0.keep hb12
            replace x0c := x0c.keep hb12
            replace B := B.trans (hb12.mono B.size)
            have X0a := X0.at.1
            have X0l := X0.lt
            have Z0a := Z0.at.1
            have Z0l := Z0.lt
            go_wp2_with fail
            clear X0a X0l Z0a Z0l
            have Z0S := Z0.at.1
            have X0S := X0.at.1
            have hS : (∀ o, w12.cell? ⟨w10.heap.size, o, none⟩ = (#[.slice px0c_0 x0.xTape.length cx0c_0, .slice px0c_1 x0.xUsed.length cx0c_1, .int .i64 x0.xSent, .slice px0c_2 x0.xHeard.length cx0c_2, .int .i64 x0.xCheat.xWho, .int .i64 x0.xCheat.xAt, .int .i64 x0.xCheat.xBy, .bool x0.xCheat.xCry, .bool x0.xQuarrel.xSome, .int .i64 x0.xQuarrel.xFrom, .int .i64 x0.xQuarrel.xCheck, .int .i64 x0.xQuarrel.xTo, .int .i64 x0.xQuarrel.xTold, .int .i64 x0.xQuarrel.xHeard, .int .i64 x0.xQuarrel.xOther, .int .i64 x0.xQuarrel.xVowed] : Array Value)[o]?) ∧ (∀ o, w12.cell? ⟨w.heap.size, o, none⟩ = (#[.slice p0_0 x0.xTape.length c0_0, .slice p0_1 x0.xUsed.length c0_1, .int .i64 x0.xSent, .slice p0_2 x0.xHeard.length c0_2, .int .i64 x0.xCheat.xWho, .int .i64 x0.xCheat.xAt, .int .i64 x0.xCheat.xBy, .bool x0.xCheat.xCry, .bool x0.xQuarrel.xSome, .int .i64 x0.xQuarrel.xFrom, .int .i64 x0.xQuarrel.xCheck, .int .i64 x0.xQuarrel.xTo, .int .i64 x0.xQuarrel.xTold, .int .i64 x0.xQuarrel.xHeard, .int .i64 x0.xQuarrel.xOther, .int .i64 x0.xQuarrel.xVowed] : Array Value)[o]?) := ⟨Z0S, X0S⟩
            clear Z0S X0S
            have tk0 : Hid True := trivial
            have tk1 : Hid True := trivial
            go_region_held3 (fun V => (∀ o, V.cell? ⟨w10.heap.size, o, none⟩ = (#[.slice px0c_0 x0.xTape.length cx0c_0, .slice px0c_1 x0.xUsed.length cx0c_1, .int .i64 x0.xSent, .slice px0c_2 x0.xHeard.length cx0c_2, .int .i64 x0.xCheat.xWho, .int .i64 x0.xCheat.xAt, .int .i64 x0.xCheat.xBy, .bool x0.xCheat.xCry, .bool x0.xQuarrel.xSome, .int .i64 x0.xQuarrel.xFrom, .int .i64 x0.xQuarrel.xCheck, .int .i64 x0.xQuarrel.xTo, .int .i64 x0.xQuarrel.xTold, .int .i64 x0.xQuarrel.xHeard, .int .i64 x0.xQuarrel.xOther, .int .i64 x0.xQuarrel.xVowed] : Array Value)[o]?) ∧ (∀ o, V.cell? ⟨w.heap.size, o, none⟩ = (#[.slice p0_0 x0.xTape.length c0_0, .slice p0_1 x0.xUsed.length c0_1, .int .i64 x0.xSent, .slice p0_2 x0.xHeard.length c0_2, .int .i64 x0.xCheat.xWho, .int .i64 x0.xCheat.xAt, .int .i64 x0.xCheat.xBy, .bool x0.xCheat.xCry, .bool x0.xQuarrel.xSome, .int .i64 x0.xQuarrel.xFrom, .int .i64 x0.xQuarrel.xCheck, .int .i64 x0.xQuarrel.xTo, .int .i64 x0.xQuarrel.xTold, .int .i64 x0.xQuarrel.xHeard, .int .i64 x0.xQuarrel.xOther, .int .i64 x0.xQuarrel.xVowed] : Array Value)[o]?)) (first | exact hS | exact ⟨(Z0.alloc _).at.1, (X0.alloc _).at.1⟩) (first | (go_at_call 24; have _t := tk0; clear _t tk0; refine Calls.at (F := fun V => Blk V (w.heap.size) 48 #[.slice p0_0 x0.xTape.length c0_0, .slice p0_1 x0.xUsed.length c0_1, .int .i64 x0.xSent, .slice p0_2 x0.xHeard.length c0_2, .int .i64 x0.xCheat.xWho, .int .i64 x0.xCheat.xAt, .int .i64 x0.xCheat.xBy, .bool x0.xCheat.xCry, .bool x0.xQuarrel.xSome, .int .i64 x0.xQuarrel.xFrom, .int .i64 x0.xQuarrel.xCheck, .int .i64 x0.xQuarrel.xTo, .int .i64 x0.xQuarrel.xTold, .int .i64 x0.xQuarrel.xHeard, .int .i64 x0.xQuarrel.xOther, .int .i64 x0.xQuarrel.xVowed] ∧ Blk V (w10.heap.size) 55 #[.slice px0c_0 x0.xTape.length cx0c_0, .slice px0c_1 x0.xUsed.length cx0c_1, .int .i64 x0.xSent, .slice px0c_2 x0.xHeard.length cx0c_2, .int .i64 x0.xCheat.xWho, .int .i64 x0.xCheat.xAt, .int .i64 x0.xCheat.xBy, .bool x0.xCheat.xCry, .bool x0.xQuarrel.xSome, .int .i64 x0.xQuarrel.xFrom, .int .i64 x0.xQuarrel.xCheck, .int .i64 x0.xQuarrel.xTo, .int .i64 x0.xQuarrel.xTold, .int .i64 x0.xQuarrel.xHeard, .int .i64 x0.xQuarrel.xOther, .int .i64 x0.xQuarrel.xVowed] ∧ Below w.heap.size w V ∧ OwNet V (.agg #[.slice px0c_0 x0.xTape.length cx0c_0, .slice px0c_1 x0.xUsed.length cx0c_1, .int .i64 x0.xSent, .slice px0c_2 x0.xHeard.length cx0c_2, .int .i64 x0.xCheat.xWho, .int .i64 x0.xCheat.xAt, .int .i64 x0.xCheat.xBy, .bool x0.xCheat.xCry, .bool x0.xQuarrel.xSome, .int .i64 x0.xQuarrel.xFrom, .int .i64 x0.xQuarrel.xCheck, .int .i64 x0.xQuarrel.xTo, .int .i64 x0.xQuarrel.xTold, .int .i64 x0.xQuarrel.xHeard, .int .i64 x0.xQuarrel.xOther, .int .i64 x0.xQuarrel.xVowed]) x0 bx0c_0 bx0c_1 bx0c_2) ?_ ?_; (first | exact ⟨X0, Z0, B, x0c⟩ | exact ⟨X0.drew, Z0.drew, B.drew, x0c.drew⟩); clear hS X0 Z0 B x0c; rintro V13 ⟨X0, Z0, B, x0c⟩; refine (toNet_ow _ x0 _ (by exact r0.below B) (by omega)).mono ?_; rintro e w14 ⟨u, by0_0, by0_1, by0_2, rfl, y0, fy0_0, fy0_1, fy0_2, hb14⟩; obtain ⟨py0_0, cy0_0, py0_1, cy0_1, py0_2, cy0_2, rfl⟩ := y0.shp; have F_y0 : ∀ y ∈ (by0_0 ++ (by0_1 ++ by0_2)), V13.heap.size ≤ y := all_app fy0_0 (all_app fy0_1 fy0_2); have dj_x0c_y0 : Dj (bx0c_0 ++ (bx0c_1 ++ bx0c_2)) (by0_0 ++ (by0_1 ++ by0_2)) := fun y hy hm => Nat.not_lt.2 (F_y0 y hm) (x0c.lt y hy); have nb_X0_y0 : w.heap.size ∉ (by0_0 ++ (by0_1 ++ by0_2)) := fun hm => Nat.not_lt.2 (F_y0 _ hm) X0.lt; have nb_Z0_y0 : w10.heap.size ∉ (by0_0 ++ (by0_1 ++ by0_2)) := fun hm => Nat.not_lt.2 (F_y0 _ hm) Z0.lt; have G_y0 : ∀ y ∈ (by0_0 ++ (by0_1 ++ by0_2)), w.heap.size ≤ y := fun y hy => Nat.le_trans B.size (F_y0 y hy); clear F_y0; replace X0 := X0.keep hb14; replace Z0 := Z0.keep hb14; replace x0c := x0c.keep hb14; replace B := B.trans (hb14.mono B.size); have hS := (show (∀ o, w14.cell? ⟨w10.heap.size, o, none⟩ = (#[.slice px0c_0 x0.xTape.length cx0c_0, .slice px0c_1 x0.xUsed.length cx0c_1, .int .i64 x0.xSent, .slice px0c_2 x0.xHeard.length cx0c_2, .int .i64 x0.xCheat.xWho, .int .i64 x0.xCheat.xAt, .int .i64 x0.xCheat.xBy, .bool x0.xCheat.xCry, .bool x0.xQuarrel.xSome, .int .i64 x0.xQuarrel.xFrom, .int .i64 x0.xQuarrel.xCheck, .int .i64 x0.xQuarrel.xTo, .int .i64 x0.xQuarrel.xTold, .int .i64 x0.xQuarrel.xHeard, .int .i64 x0.xQuarrel.xOther, .int .i64 x0.xQuarrel.xVowed] : Array Value)[o]?) ∧ (∀ o, w14.cell? ⟨w.heap.size, o, none⟩ = (#[.slice p0_0 x0.xTape.length c0_0, .slice p0_1 x0.xUsed.length c0_1, .int .i64 x0.xSent, .slice p0_2 x0.xHeard.length c0_2, .int .i64 x0.xCheat.xWho, .int .i64 x0.xCheat.xAt, .int .i64 x0.xCheat.xBy, .bool x0.xCheat.xCry, .bool x0.xQuarrel.xSome, .int .i64 x0.xQuarrel.xFrom, .int .i64 x0.xQuarrel.xCheck, .int .i64 x0.xQuarrel.xTo, .int .i64 x0.xQuarrel.xTold, .int .i64 x0.xQuarrel.xHeard, .int .i64 x0.xQuarrel.xOther, .int .i64 x0.xQuarrel.xVowed] : Array Value)[o]?) from ⟨Z0.at.1, X0.at.1⟩)) | (go_at_call 26; have _t := tk1; clear _t tk1; refine Calls.at (F := fun V => Blk V (w.heap.size) 48 #[.slice p0_0 x0.xTape.length c0_0, .slice p0_1 x0.xUsed.length c0_1, .int .i64 x0.xSent, .slice p0_2 x0.xHeard.length c0_2, .int .i64 x0.xCheat.xWho, .int .i64 x0.xCheat.xAt, .int .i64 x0.xCheat.xBy, .bool x0.xCheat.xCry, .bool x0.xQuarrel.xSome, .int .i64 x0.xQuarrel.xFrom, .int .i64 x0.xQuarrel.xCheck, .int .i64 x0.xQuarrel.xTo, .int .i64 x0.xQuarrel.xTold, .int .i64 x0.xQuarrel.xHeard, .int .i64 x0.xQuarrel.xOther, .int .i64 x0.xQuarrel.xVowed] ∧ Blk V (w10.heap.size) 55 #[.slice px0c_0 x0.xTape.length cx0c_0, .slice px0c_1 x0.xUsed.length cx0c_1, .int .i64 x0.xSent, .slice px0c_2 x0.xHeard.length cx0c_2, .int .i64 x0.xCheat.xWho, .int .i64 x0.xCheat.xAt, .int .i64 x0.xCheat.xBy, .bool x0.xCheat.xCry, .bool x0.xQuarrel.xSome, .int .i64 x0.xQuarrel.xFrom, .int .i64 x0.xQuarrel.xCheck, .int .i64 x0.xQuarrel.xTo, .int .i64 x0.xQuarrel.xTold, .int .i64 x0.xQuarrel.xHeard, .int .i64 x0.xQuarrel.xOther, .int .i64 x0.xQuarrel.xVowed] ∧ Below w.heap.size w V ∧ OwNet V (.agg #[.slice px0c_0 x0.xTape.length cx0c_0, .slice px0c_1 x0.xUsed.length cx0c_1, .int .i64 x0.xSent, .slice px0c_2 x0.xHeard.length cx0c_2, .int .i64 x0.xCheat.xWho, .int .i64 x0.xCheat.xAt, .int .i64 x0.xCheat.xBy, .bool x0.xCheat.xCry, .bool x0.xQuarrel.xSome, .int .i64 x0.xQuarrel.xFrom, .int .i64 x0.xQuarrel.xCheck, .int .i64 x0.xQuarrel.xTo, .int .i64 x0.xQuarrel.xTold, .int .i64 x0.xQuarrel.xHeard, .int .i64 x0.xQuarrel.xOther, .int .i64 x0.xQuarrel.xVowed]) x0 bx0c_0 bx0c_1 bx0c_2 ∧ OwNet V (.agg #[.slice py0_0 x0.xTape.length cy0_0, .slice py0_1 x0.xUsed.length cy0_1, .int .i64 x0.xSent, .slice py0_2 x0.xHeard.length cy0_2, .int .i64 x0.xCheat.xWho, .int .i64 x0.xCheat.xAt, .int .i64 x0.xCheat.xBy, .bool x0.xCheat.xCry, .bool x0.xQuarrel.xSome, .int .i64 x0.xQuarrel.xFrom, .int .i64 x0.xQuarrel.xCheck, .int .i64 x0.xQuarrel.xTo, .int .i64 x0.xQuarrel.xTold, .int .i64 x0.xQuarrel.xHeard, .int .i64 x0.xQuarrel.xOther, .int .i64 x0.xQuarrel.xVowed]) x0 by0_0 by0_1 by0_2) ?_ ?_; (first | exact ⟨X0, Z0, B, x0c, y0⟩ | exact ⟨X0.drew, Z0.drew, B.drew, x0c.drew, y0.drew⟩); clear hS X0 Z0 B x0c y0; rintro V15 ⟨X0, Z0, B, x0c, y0⟩; refine (eqNet_rd _ _ x0 _ (by exact x0c.rd) (by exact y0.rd)).mono ?_; rintro e w16 ⟨rfl, hb16⟩; replace X0 := X0.keep hb16; replace Z0 := Z0.keep hb16; replace x0c := x0c.keep hb16; replace y0 := y0.keep hb16; replace B := B.trans (hb16.mono B.size); have hS := (show (∀ o, w16.cell? ⟨w10.heap.size, o, none⟩ = (#[.slice px0c_0 x0.xTape.length cx0c_0, .slice px0c_1 x0.xUsed.length cx0c_1, .int .i64 x0.xSent, .slice px0c_2 x0.xHeard.length cx0c_2, .int .i64 x0.xCheat.xWho, .int .i64 x0.xCheat.xAt, .int .i64 x0.xCheat.xBy, .bool x0.xCheat.xCry, .bool x0.xQuarrel.xSome, .int .i64 x0.xQuarrel.xFrom, .int .i64 x0.xQuarrel.xCheck, .int .i64 x0.xQuarrel.xTo, .int .i64 x0.xQuarrel.xTold, .int .i64 x0.xQuarrel.xHeard, .int .i64 x0.xQuarrel.xOther, .int .i64 x0.xQuarrel.xVowed] : Array Value)[o]?) ∧ (∀ o, w16.cell? ⟨w.heap.size, o, none⟩ = (#[.slice p0_0 x0.xTape.length c0_0, .slice p0_1 x0.xUsed.length c0_1, .int .i64 x0.xSent, .slice p0_2 x0.xHeard.length c0_2, .int .i64 x0.xCheat.xWho, .int .i64 x0.xCheat.xAt, .int .i64 x0.xCheat.xBy, .bool x0.xCheat.xCry, .bool x0.xQuarrel.xSome, .int .i64 x0.xQuarrel.xFrom, .int .i64 x0.xQuarrel.xCheck, .int .i64 x0.xQuarrel.xTo, .int .i64 x0.xQuarrel.xTold, .int .i64 x0.xQuarrel.xHeard, .int .i64 x0.xQuarrel.xOther, .int .i64 x0.xQuarrel.xVowed] : Array Value)[o]?) from ⟨Z0.at.1, X0.at.1⟩)))
            clear hS
            clear y0 G_y0
            have X0a := X0.at.1
            have X0l := X0.lt
            have Z0a := Z0.at.1
            have Z0l := Z0.lt
            go_wp2
            go_ret
            exact ⟨rfl, B⟩
/-! the row's step -/
set_option maxRecDepth 100000 in
theorem lifted (os : Os) (started : os.Started) (H : Type) (enc : TypeId × Value → H) :
    ReturnsInHanded {} Try.checked os 6 .any (Rows.fnExactNetFaultSpec.pre6 enc Try.prog Try.f6 Rows.fnExactNetFaultRow.domain false) (Rows.fnExactNetFaultSpec.post enc Try.prog Try.f6 false true false false) := by
  refine returnsInHanded_of_change (C := Try.checked) own started (by kernel_rfl) Try.func6
    (ChangeSpec.witness6 (enc := enc) (C := Try.checked) false ⟨#[], #[.agg #[.slice none 0 0, .slice none 0 0, .int .i64 0, .slice none 0 0, .int .i64 0, .int .i64 0, .int .i64 0, .bool false, .bool false, .int .i64 0, .int .i64 0, .int .i64 0, .int .i64 0, .int .i64 0, .int .i64 0, .int .i64 0]], []⟩ 8 (by kernel_rfl) (by kernel_rfl) (by kernel_rfl) (by kernel_rfl)) ?_
  intro W base args ds gs before hval0 hW hcnd _
  have hval : ∀ (j : Nat) t v, Try.f6.params[j]? = some t → args[j]? = some v → Value.okWide Try.prog W .any base t v := hval0
  have hW' := hW
  obtain ⟨p, q, hA0, hV, rfl, hfz, hnd⟩ := hW
  have hA : DataW.TrodAll enc Try.prog W 0 (fun _ => true) true Try.f6.params.toList args.toList ds p := hA0
  rw [Try.params6] at hA hval
  obtain ⟨v0, vs0, d0, ds0, p0, q0, hargs, rfl, rfl, h0, r0⟩ := trodAll_cons hA
  obtain ⟨rfl, rfl, rfl⟩ := trodAll_nil r0
  obtain rfl : args = #[v0] := by cases args; simp_all
  obtain ⟨rfl, rfl⟩ := trodVars_none hV
  have k0 := h0
  have lt0 : ∀ x ∈ p0, x.block < W.heap.size := by obtain ⟨m, hm⟩ := k0; exact DataW.trod_lt m _ _ _ hm
  obtain ⟨cs0, rfl, _⟩ := okWide_struct Try.underlying48 (hval 0 48 v0 rfl rfl)
  obtain ⟨x0, w0⟩ : ∃ y, RdNet W (.agg cs0) y := by
    obtain ⟨fuel, hf⟩ := h0
    obtain ⟨y, q⟩ := open_Net hf
    exact ⟨y, by simpa [Value.cells] using q⟩
  clear hA0 hval0
  refine (walk _ x0 W w0).mono fun e W' ⟨he, bel⟩ => ?_
  subst he
  exact ⟨_, rfl, _, _, _, [], _, [], hW', trodAll_mk1 (shut_bool Try.underlying4 _), (trodAll_cons_mk (Below.trod laidOut (by kernel_rfl) (of_decide_eq_true (by kernel_rfl)) k0 bel lt0) trodAll_mk0), rfl, bel.frame _, fun h => by cases h⟩

theorem over : Rows.fnExactNetFaultRow.holds Try.pinned (OpenSpec.ofChange Rows.fnExactNetFaultSpec) :=
  OpenClaim.holds_of_wide 6 Try.f6 rfl rfl rfl rfl rfl rfl rfl ⟨rfl, rfl, rfl, rfl, rfl⟩ rfl rfl rfl rfl rfl (by kernel_rfl) Try.func6 (by kernel_rfl)
    (of_decide_eq_true (by kernel_rfl)) (by unfold Func.isWrapper; first | (rw [if_pos (by decide +kernel)]; kernel_rfl) | (rw [if_neg (by decide +kernel)]; exact ⟨rfl, rfl⟩))
    (fun os started H enc _ => lifted os started H enc)

end Go.Proofs.Ytadppilldijijaj.fnExactNetFault
namespace Go.Proofs.Ytadppilldijijaj
theorem fnExactNetFault_holds : Rows.FnExactNetFaultSaid := fnExactNetFault.over
#print axioms fnExactNetFault_holds
end Go.Proofs.Ytadppilldijijaj
