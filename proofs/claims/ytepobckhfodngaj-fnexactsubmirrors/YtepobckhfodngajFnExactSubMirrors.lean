/-
  FnExactSubMirrors answers true at every two mirrors: the program's SubMirrors answers as its model does, writes into no argument, and each answer owns its memory.
-/
import Derived.Test.YtepobckhfodngajMirZs
import Derived.Test.YtepobckhfodngajOpen
import Derived.Test.YtepobckhfodngajOpen
import Derived.Deep.RegionHeld3
import Derived.Deep.CutRange
import Derived.Deep.Cut
import Derived.Deep.RegionWith
import Derived.ShutString
import Derived.ChangeOld
import Derived.Below
namespace Go.Proofs.Ytepobckhfodngaj.fnExactSubMirrors
open Go.ChangeShapes Go.WideShapes Go.ChangeAt Go.RowKit
open Go.ChangeMaps (open_string shut_string)
set_option linter.unusedVariables false

theorem own : ownKnob Try.prog.godebug = none := by kernel_rfl
theorem laidOut : laidOutB Try.prog = true := by kernel_rfl

set_option maxHeartbeats 4000000 in
set_option maxRecDepth 100000 in
theorem walk (v0 : Value) (x0 : MMirror) (v1 : Value) (x1 : MMirror) (w : World) (r0 : RdMirror w (v0) x0) (r1 : RdMirror w (v1) x1) :
    Calls Try.prog 3 #[v0, v1] w fun e w' => e = .returned (.bool true) ∧ Below w.heap.size w w' := by
  obtain ⟨p0_0, c0_0, hv0, r0_0⟩ := r0
  subst hv0
  have r0 : RdMirror w (.agg #[.int .i64 x0.xQ, .slice p0_0 x0.xViews.length c0_0]) x0 := ⟨p0_0, c0_0, rfl, r0_0⟩
  clear r0_0
  obtain ⟨p1_0, c1_0, hv1, r1_0⟩ := r1
  subst hv1
  have r1 : RdMirror w (.agg #[.int .i64 x1.xQ, .slice p1_0 x1.xViews.length c1_0]) x1 := ⟨p1_0, c1_0, rfl, r1_0⟩
  clear r1_0
  by_cases s0 : (1048576 : Int) < (totMirror x0 : Nat)
  · skip
    go_enter Try.func3, Try.ntmps3
    go_wp2_with fail
    refine Calls.at (F := fun V => Blk V (w.heap.size) 24 #[.int .i64 x0.xQ, .slice p0_0 x0.xViews.length c0_0] ∧ Blk V (w.heap.size + 1) 24 #[.int .i64 x1.xQ, .slice p1_0 x1.xViews.length c1_0] ∧ Below w.heap.size w V) ⟨?_, ?_, ?_⟩ ?_
    · exact (Blk.new w 24 #[.int .i64 x0.xQ, .slice p0_0 x0.xViews.length c0_0]).alloc (.cells #[.int .i64 x1.xQ, .slice p1_0 x1.xViews.length c1_0] 24)
    · simpa using (Blk.new (w.alloc (.cells #[.int .i64 x0.xQ, .slice p0_0 x0.xViews.length c0_0] 24)) 24 #[.int .i64 x1.xQ, .slice p1_0 x1.xViews.length c1_0])
    · exact (by repeat (first | exact Below.refl _ _ | refine Below.drew ?_ | refine below_drewN ?_ _ | refine Below.setCell ?_ (by first | omega | (simp; done) | (simp; omega)) _ | refine Below.alloc ?_ (by first | omega | (simp; done) | (simp; omega)) _))
    rintro V1 ⟨X0, X1, B⟩
    refine (szMirror_over _ x0 _ _ (by exact r0.below B) (by omega) (by omega) (by omega)).mono ?_
    rintro e w2 ⟨rfl, hb2⟩
    replace X0 := X0.keep hb2
    replace X1 := X1.keep hb2
    replace B := B.trans (hb2.mono B.size)
    go_wp2
    go_ret
    exact ⟨rfl, B⟩
  by_cases s1 : (1048576 - (totMirror x0 : Nat) : Int) < (totMirror x1 : Nat)
  · skip
    go_enter Try.func3, Try.ntmps3
    go_wp2_with fail
    refine Calls.at (F := fun V => Blk V (w.heap.size) 24 #[.int .i64 x0.xQ, .slice p0_0 x0.xViews.length c0_0] ∧ Blk V (w.heap.size + 1) 24 #[.int .i64 x1.xQ, .slice p1_0 x1.xViews.length c1_0] ∧ Below w.heap.size w V) ⟨?_, ?_, ?_⟩ ?_
    · exact (Blk.new w 24 #[.int .i64 x0.xQ, .slice p0_0 x0.xViews.length c0_0]).alloc (.cells #[.int .i64 x1.xQ, .slice p1_0 x1.xViews.length c1_0] 24)
    · simpa using (Blk.new (w.alloc (.cells #[.int .i64 x0.xQ, .slice p0_0 x0.xViews.length c0_0] 24)) 24 #[.int .i64 x1.xQ, .slice p1_0 x1.xViews.length c1_0])
    · exact (by repeat (first | exact Below.refl _ _ | refine Below.drew ?_ | refine below_drewN ?_ _ | refine Below.setCell ?_ (by first | omega | (simp; done) | (simp; omega)) _ | refine Below.alloc ?_ (by first | omega | (simp; done) | (simp; omega)) _))
    rintro V3 ⟨X0, X1, B⟩
    refine (szMirror_fit _ x0 _ _ (by exact r0.below B) (by omega) (by omega) (by omega)).mono ?_
    rintro e w4 ⟨rfl, hb4⟩
    replace X0 := X0.keep hb4
    replace X1 := X1.keep hb4
    replace B := B.trans (hb4.mono B.size)
    have X0a := X0.at.1
    have X0l := X0.lt
    have X1a := X1.at.1
    have X1l := X1.lt
    go_wp2_with fail
    clear X0a X0l X1a X1l
    refine Calls.at (F := fun V => Blk V (w.heap.size) 24 #[.int .i64 x0.xQ, .slice p0_0 x0.xViews.length c0_0] ∧ Blk V (w.heap.size + 1) 24 #[.int .i64 x1.xQ, .slice p1_0 x1.xViews.length c1_0] ∧ Below w.heap.size w V) ⟨X0, X1, B⟩ ?_
    clear X0 X1 B
    rintro V5 ⟨X0, X1, B⟩
    refine (szMirror_over _ x1 _ _ (by exact r1.below B) (by omega) (by omega) (by omega)).mono ?_
    rintro e w6 ⟨rfl, hb6⟩
    replace X0 := X0.keep hb6
    replace X1 := X1.keep hb6
    replace B := B.trans (hb6.mono B.size)
    go_wp2
    go_ret
    exact ⟨rfl, B⟩
  have hc0 := cntMirror_le x0
  have hc1 := cntMirror_le x1
  have KS : ∀ (V : World) (u0 : Value) (u1 : Value), RdMirror V (u0) x0 → RdMirror V (u1) x1 → Calls Try.prog 10 #[u0, u1] V fun e V' => ∃ u b0, e = .returned u ∧ OwMirrorResult V' (u) (joinR (fun x y => x - y) x0 x1) b0 ∧ (∀ y ∈ b0, V.heap.size ≤ y) ∧ Below V.heap.size V V' := fun V u0 u1 h0 h1 => spec_SubMirrors _ _ _ _ _ h0 h1
  have KI : ∀ (V : World) (u0 : Value) (u1 : Value), RdMirror V (u0) x0 → RdMirror V (u1) x1 → Calls Try.prog 12 #[u0, u1] V fun e V' => ∃ u b0, e = .returned u ∧ OwMirrorResult V' (u) (joinR (fun x y => x - y) x0 x1) b0 ∧ (∀ y ∈ b0, V.heap.size ≤ y) ∧ Below V.heap.size V V' := fun V u0 u1 h0 h1 => impl_SubMirrors _ _ _ _ _ h0 h1
  obtain ⟨r, HS, HI, hcr⟩ : ∃ r : MMirrorResult, Hid (∀ (V : World) (u0 : Value) (u1 : Value), RdMirror V (u0) x0 → RdMirror V (u1) x1 → Calls Try.prog 10 #[u0, u1] V fun e V' => ∃ u b0, e = .returned u ∧ OwMirrorResult V' (u) r b0 ∧ (∀ y ∈ b0, V.heap.size ≤ y) ∧ Below V.heap.size V V') ∧ Hid (∀ (V : World) (u0 : Value) (u1 : Value), RdMirror V (u0) x0 → RdMirror V (u1) x1 → Calls Try.prog 12 #[u0, u1] V fun e V' => ∃ u b0, e = .returned u ∧ OwMirrorResult V' (u) r b0 ∧ (∀ y ∈ b0, V.heap.size ≤ y) ∧ Below V.heap.size V V') ∧ cntMirrorResult r ≤ 268435456 := ⟨joinR (fun x y => x - y) x0 x1, KS, KI, joinR_cnt _ x0 x1⟩
  clear KS KI
  go_enter Try.func3, Try.ntmps3
  go_wp2_with fail
  refine Calls.at (F := fun V => Blk V (w.heap.size) 24 #[.int .i64 x0.xQ, .slice p0_0 x0.xViews.length c0_0] ∧ Blk V (w.heap.size + 1) 24 #[.int .i64 x1.xQ, .slice p1_0 x1.xViews.length c1_0] ∧ Below w.heap.size w V) ⟨?_, ?_, ?_⟩ ?_
  · exact (Blk.new w 24 #[.int .i64 x0.xQ, .slice p0_0 x0.xViews.length c0_0]).alloc (.cells #[.int .i64 x1.xQ, .slice p1_0 x1.xViews.length c1_0] 24)
  · simpa using (Blk.new (w.alloc (.cells #[.int .i64 x0.xQ, .slice p0_0 x0.xViews.length c0_0] 24)) 24 #[.int .i64 x1.xQ, .slice p1_0 x1.xViews.length c1_0])
  · exact (by repeat (first | exact Below.refl _ _ | refine Below.drew ?_ | refine below_drewN ?_ _ | refine Below.setCell ?_ (by first | omega | (simp; done) | (simp; omega)) _ | refine Below.alloc ?_ (by first | omega | (simp; done) | (simp; omega)) _))
  rintro V7 ⟨X0, X1, B⟩
  refine (szMirror_fit _ x0 _ _ (by exact r0.below B) (by omega) (by omega) (by omega)).mono ?_
  rintro e w8 ⟨rfl, hb8⟩
  replace X0 := X0.keep hb8
  replace X1 := X1.keep hb8
  replace B := B.trans (hb8.mono B.size)
  have X0a := X0.at.1
  have X0l := X0.lt
  have X1a := X1.at.1
  have X1l := X1.lt
  go_wp2_with fail
  clear X0a X0l X1a X1l
  refine Calls.at (F := fun V => Blk V (w.heap.size) 24 #[.int .i64 x0.xQ, .slice p0_0 x0.xViews.length c0_0] ∧ Blk V (w.heap.size + 1) 24 #[.int .i64 x1.xQ, .slice p1_0 x1.xViews.length c1_0] ∧ Below w.heap.size w V) ⟨X0, X1, B⟩ ?_
  clear X0 X1 B
  rintro V9 ⟨X0, X1, B⟩
  refine (szMirror_fit _ x1 _ _ (by exact r1.below B) (by omega) (by omega) (by omega)).mono ?_
  rintro e w10 ⟨rfl, hb10⟩
  replace X0 := X0.keep hb10
  replace X1 := X1.keep hb10
  replace B := B.trans (hb10.mono B.size)
  have X0a := X0.at.1
  have X0l := X0.lt
  have X1a := X1.at.1
  have X1l := X1.lt
  go_wp2_with fail
  clear X0a X0l X1a X1l
  go_cut [6] from 14 (fun s wr => (∃ nz pw0_0 cw0_0 bw0_0, s = .pointer (some ⟨nz, 0, none⟩) ∧ Blk wr (w.heap.size) 24 #[.int .i64 x0.xQ, .slice p0_0 x0.xViews.length c0_0] ∧ Blk wr (w.heap.size + 1) 24 #[.int .i64 x1.xQ, .slice p1_0 x1.xViews.length c1_0] ∧ Below w.heap.size w wr ∧ OwMirrorResult wr (.agg #[.int .i64 r.xCode, .int .i64 r.xMirror.xQ, .slice pw0_0 r.xMirror.xViews.length cw0_0]) r bw0_0 ∧ Blk wr (nz) 28 #[.int .i64 r.xCode, .int .i64 r.xMirror.xQ, .slice pw0_0 r.xMirror.xViews.length cw0_0] ∧ w.heap.size ∉ bw0_0 ∧ w.heap.size + 1 ∉ bw0_0 ∧ (∀ y ∈ bw0_0, w.heap.size ≤ y) ∧ nz ∉ bw0_0))
  case first =>
    have hS : (∀ o, w10.cell? ⟨w.heap.size, o, none⟩ = (#[.int .i64 x0.xQ, .slice p0_0 x0.xViews.length c0_0] : Array Value)[o]?) ∧ (∀ o, w10.cell? ⟨w.heap.size + 1, o, none⟩ = (#[.int .i64 x1.xQ, .slice p1_0 x1.xViews.length c1_0] : Array Value)[o]?) := ⟨X0.at.1, X1.at.1⟩
    have tk0 : Hid True := trivial
    have tk1 : Hid True := trivial
    have tk2 : Hid True := trivial
    go_region_held3 (fun V => (∀ o, V.cell? ⟨w.heap.size, o, none⟩ = (#[.int .i64 x0.xQ, .slice p0_0 x0.xViews.length c0_0] : Array Value)[o]?) ∧ (∀ o, V.cell? ⟨w.heap.size + 1, o, none⟩ = (#[.int .i64 x1.xQ, .slice p1_0 x1.xViews.length c1_0] : Array Value)[o]?)) (first | (have _k := tkK; first | exact hS | exact HSO.out _ (((((Off.refl _ _).setCell _ _ (by simp)).setCell _ _ (by simp)).setCell _ _ (by simp)))) | (have _u := tkU; first | exact hS | exact HSO.out _ ((Off.refl _ _).alloc _)) | exact hS | exact ⟨(X0.alloc _).at.1, (X1.alloc _).at.1⟩ | exact ⟨(X0.drew.alloc _).at.1, (X1.drew.alloc _).at.1⟩) (first | (go_at_call 11; have _t := tk0; clear _t tk0; (first | (have _n := NB; clear _n; refine Calls.at (F := fun V => Blk V (w.heap.size) 24 #[.int .i64 x0.xQ, .slice p0_0 x0.xViews.length c0_0] ∧ Blk V (w.heap.size + 1) 24 #[.int .i64 x1.xQ, .slice p1_0 x1.xViews.length c1_0] ∧ Below w.heap.size w V ∧ Blk V nb 28 #[.int .i64 0, .int .i64 0, .slice none 0 0]) (by first | exact ⟨X0, X1, B, NB⟩ | exact ⟨X0.drew, X1.drew, B.drew, NB.drew⟩) ?_; clear hS NB X0 X1 B; rintro V11 ⟨X0, X1, B, NB⟩) | (refine Calls.at (F := fun V => Blk V (w.heap.size) 24 #[.int .i64 x0.xQ, .slice p0_0 x0.xViews.length c0_0] ∧ Blk V (w.heap.size + 1) 24 #[.int .i64 x1.xQ, .slice p1_0 x1.xViews.length c1_0] ∧ Below w.heap.size w V) (by first | exact ⟨X0, X1, B⟩ | exact ⟨X0.drew, X1.drew, B.drew⟩) ?_; clear hS X0 X1 B; rintro V11 ⟨X0, X1, B⟩) | (obtain ⟨nb, hnb⟩ : ∃ n : Nat, n = w10.heap.size := ⟨_, rfl⟩; have HNB : Hid (nb = w10.heap.size) := hnb; have nbx_X0 : w.heap.size ≠ nb := (fun h => by rw [hnb] at h; have := X0.lt; omega); have nbx_X1 : w.heap.size + 1 ≠ nb := (fun h => by rw [hnb] at h; have := X1.lt; omega); have nbw : w.heap.size ≤ nb := (by rw [hnb]; exact B.size); refine Calls.at (F := fun V => Blk V (w.heap.size) 24 #[.int .i64 x0.xQ, .slice p0_0 x0.xViews.length c0_0] ∧ Blk V (w.heap.size + 1) 24 #[.int .i64 x1.xQ, .slice p1_0 x1.xViews.length c1_0] ∧ Below w.heap.size w V ∧ Blk V nb 28 #[.int .i64 0, .int .i64 0, .slice none 0 0]) (by first | exact ⟨X0.alloc _, X1.alloc _, B.alloc B.size _, by rw [hnb]; exact Blk.new _ _ _⟩ | exact ⟨X0.drew.alloc _, X1.drew.alloc _, B.drew.alloc B.drew.size _, by rw [hnb]; exact Blk.new _ _ _⟩) ?_; clear hS hnb X0 X1 B; rintro V11 ⟨X0, X1, B, NB⟩)); refine (toMirror_ow _ x0 _ (by exact r0.below B) (by omega)).mono ?_; rintro e w12 ⟨u, bw0a0_0, rfl, w0a0, fw0a0_0, hb12⟩; (try replace NB := NB.keep hb12); obtain ⟨pw0a0_0, cw0a0_0, rfl⟩ := w0a0.shp; have F_w0a0 : ∀ y ∈ bw0a0_0, V11.heap.size ≤ y := fw0a0_0; have nb_X0_w0a0 : w.heap.size ∉ bw0a0_0 := fun hm => Nat.not_lt.2 (F_w0a0 _ hm) X0.lt; have nb_X1_w0a0 : w.heap.size + 1 ∉ bw0a0_0 := fun hm => Nat.not_lt.2 (F_w0a0 _ hm) X1.lt; have G_w0a0 : ∀ y ∈ bw0a0_0, w.heap.size ≤ y := fun y hy => Nat.le_trans B.size (F_w0a0 y hy); clear F_w0a0; replace X0 := X0.keep hb12; replace X1 := X1.keep hb12; replace B := B.trans (hb12.mono B.size); have hS := (show (∀ o, w12.cell? ⟨w.heap.size, o, none⟩ = (#[.int .i64 x0.xQ, .slice p0_0 x0.xViews.length c0_0] : Array Value)[o]?) ∧ (∀ o, w12.cell? ⟨w.heap.size + 1, o, none⟩ = (#[.int .i64 x1.xQ, .slice p1_0 x1.xViews.length c1_0] : Array Value)[o]?) from ⟨X0.at.1, X1.at.1⟩)) | (go_at_call 11; have _t := tk1; clear _t tk1; (first | (have _n := NB; clear _n; refine Calls.at (F := fun V => Blk V (w.heap.size) 24 #[.int .i64 x0.xQ, .slice p0_0 x0.xViews.length c0_0] ∧ Blk V (w.heap.size + 1) 24 #[.int .i64 x1.xQ, .slice p1_0 x1.xViews.length c1_0] ∧ Below w.heap.size w V ∧ OwMirror V (.agg #[.int .i64 x0.xQ, .slice pw0a0_0 x0.xViews.length cw0a0_0]) x0 bw0a0_0 ∧ Blk V nb 28 #[.int .i64 0, .int .i64 0, .slice none 0 0]) (by first | exact ⟨X0, X1, B, w0a0, NB⟩ | exact ⟨X0.drew, X1.drew, B.drew, w0a0.drew, NB.drew⟩) ?_; clear hS NB X0 X1 B w0a0; rintro V13 ⟨X0, X1, B, w0a0, NB⟩) | (refine Calls.at (F := fun V => Blk V (w.heap.size) 24 #[.int .i64 x0.xQ, .slice p0_0 x0.xViews.length c0_0] ∧ Blk V (w.heap.size + 1) 24 #[.int .i64 x1.xQ, .slice p1_0 x1.xViews.length c1_0] ∧ Below w.heap.size w V ∧ OwMirror V (.agg #[.int .i64 x0.xQ, .slice pw0a0_0 x0.xViews.length cw0a0_0]) x0 bw0a0_0) (by first | exact ⟨X0, X1, B, w0a0⟩ | exact ⟨X0.drew, X1.drew, B.drew, w0a0.drew⟩) ?_; clear hS X0 X1 B w0a0; rintro V13 ⟨X0, X1, B, w0a0⟩) | (obtain ⟨nb, hnb⟩ : ∃ n : Nat, n = w12.heap.size := ⟨_, rfl⟩; have HNB : Hid (nb = w12.heap.size) := hnb; have nbk_w0a0 : nb ∉ bw0a0_0 := (fun hm => by rw [hnb] at hm; exact Nat.lt_irrefl _ (w0a0.lt _ hm)); have nbx_X0 : w.heap.size ≠ nb := (fun h => by rw [hnb] at h; have := X0.lt; omega); have nbx_X1 : w.heap.size + 1 ≠ nb := (fun h => by rw [hnb] at h; have := X1.lt; omega); have nbw : w.heap.size ≤ nb := (by rw [hnb]; exact B.size); refine Calls.at (F := fun V => Blk V (w.heap.size) 24 #[.int .i64 x0.xQ, .slice p0_0 x0.xViews.length c0_0] ∧ Blk V (w.heap.size + 1) 24 #[.int .i64 x1.xQ, .slice p1_0 x1.xViews.length c1_0] ∧ Below w.heap.size w V ∧ OwMirror V (.agg #[.int .i64 x0.xQ, .slice pw0a0_0 x0.xViews.length cw0a0_0]) x0 bw0a0_0 ∧ Blk V nb 28 #[.int .i64 0, .int .i64 0, .slice none 0 0]) (by first | exact ⟨X0.alloc _, X1.alloc _, B.alloc B.size _, w0a0.alloc _, by rw [hnb]; exact Blk.new _ _ _⟩ | exact ⟨X0.drew.alloc _, X1.drew.alloc _, B.drew.alloc B.drew.size _, w0a0.drew.alloc _, by rw [hnb]; exact Blk.new _ _ _⟩) ?_; clear hS hnb X0 X1 B w0a0; rintro V13 ⟨X0, X1, B, w0a0, NB⟩)); refine (toMirror_ow _ x1 _ (by exact r1.below B) (by omega)).mono ?_; rintro e w14 ⟨u, bw0a1_0, rfl, w0a1, fw0a1_0, hb14⟩; (try replace NB := NB.keep hb14); obtain ⟨pw0a1_0, cw0a1_0, rfl⟩ := w0a1.shp; have F_w0a1 : ∀ y ∈ bw0a1_0, V13.heap.size ≤ y := fw0a1_0; have dj_w0a0_w0a1 : Dj bw0a0_0 bw0a1_0 := fun y hy hm => Nat.not_lt.2 (F_w0a1 y hm) (w0a0.lt y hy); have nb_X0_w0a1 : w.heap.size ∉ bw0a1_0 := fun hm => Nat.not_lt.2 (F_w0a1 _ hm) X0.lt; have nb_X1_w0a1 : w.heap.size + 1 ∉ bw0a1_0 := fun hm => Nat.not_lt.2 (F_w0a1 _ hm) X1.lt; have G_w0a1 : ∀ y ∈ bw0a1_0, w.heap.size ≤ y := fun y hy => Nat.le_trans B.size (F_w0a1 y hy); clear F_w0a1; replace X0 := X0.keep hb14; replace X1 := X1.keep hb14; replace w0a0 := w0a0.keep hb14; replace B := B.trans (hb14.mono B.size); have hS := (show (∀ o, w14.cell? ⟨w.heap.size, o, none⟩ = (#[.int .i64 x0.xQ, .slice p0_0 x0.xViews.length c0_0] : Array Value)[o]?) ∧ (∀ o, w14.cell? ⟨w.heap.size + 1, o, none⟩ = (#[.int .i64 x1.xQ, .slice p1_0 x1.xViews.length c1_0] : Array Value)[o]?) from ⟨X0.at.1, X1.at.1⟩)) | (go_at_call 10; have _t := tk2; clear _t tk2; (first | (have _n := NB; clear _n; refine Calls.at (F := fun V => Blk V (w.heap.size) 24 #[.int .i64 x0.xQ, .slice p0_0 x0.xViews.length c0_0] ∧ Blk V (w.heap.size + 1) 24 #[.int .i64 x1.xQ, .slice p1_0 x1.xViews.length c1_0] ∧ Below w.heap.size w V ∧ OwMirror V (.agg #[.int .i64 x0.xQ, .slice pw0a0_0 x0.xViews.length cw0a0_0]) x0 bw0a0_0 ∧ OwMirror V (.agg #[.int .i64 x1.xQ, .slice pw0a1_0 x1.xViews.length cw0a1_0]) x1 bw0a1_0 ∧ Blk V nb 28 #[.int .i64 0, .int .i64 0, .slice none 0 0]) (by first | exact ⟨X0, X1, B, w0a0, w0a1, NB⟩ | exact ⟨X0.drew, X1.drew, B.drew, w0a0.drew, w0a1.drew, NB.drew⟩) ?_; clear hS NB X0 X1 B w0a0 w0a1; rintro V15 ⟨X0, X1, B, w0a0, w0a1, NB⟩) | (refine Calls.at (F := fun V => Blk V (w.heap.size) 24 #[.int .i64 x0.xQ, .slice p0_0 x0.xViews.length c0_0] ∧ Blk V (w.heap.size + 1) 24 #[.int .i64 x1.xQ, .slice p1_0 x1.xViews.length c1_0] ∧ Below w.heap.size w V ∧ OwMirror V (.agg #[.int .i64 x0.xQ, .slice pw0a0_0 x0.xViews.length cw0a0_0]) x0 bw0a0_0 ∧ OwMirror V (.agg #[.int .i64 x1.xQ, .slice pw0a1_0 x1.xViews.length cw0a1_0]) x1 bw0a1_0) (by first | exact ⟨X0, X1, B, w0a0, w0a1⟩ | exact ⟨X0.drew, X1.drew, B.drew, w0a0.drew, w0a1.drew⟩) ?_; clear hS X0 X1 B w0a0 w0a1; rintro V15 ⟨X0, X1, B, w0a0, w0a1⟩) | (obtain ⟨nb, hnb⟩ : ∃ n : Nat, n = w14.heap.size := ⟨_, rfl⟩; have HNB : Hid (nb = w14.heap.size) := hnb; have nbk_w0a0 : nb ∉ bw0a0_0 := (fun hm => by rw [hnb] at hm; exact Nat.lt_irrefl _ (w0a0.lt _ hm)); have nbk_w0a1 : nb ∉ bw0a1_0 := (fun hm => by rw [hnb] at hm; exact Nat.lt_irrefl _ (w0a1.lt _ hm)); have nbx_X0 : w.heap.size ≠ nb := (fun h => by rw [hnb] at h; have := X0.lt; omega); have nbx_X1 : w.heap.size + 1 ≠ nb := (fun h => by rw [hnb] at h; have := X1.lt; omega); have nbw : w.heap.size ≤ nb := (by rw [hnb]; exact B.size); refine Calls.at (F := fun V => Blk V (w.heap.size) 24 #[.int .i64 x0.xQ, .slice p0_0 x0.xViews.length c0_0] ∧ Blk V (w.heap.size + 1) 24 #[.int .i64 x1.xQ, .slice p1_0 x1.xViews.length c1_0] ∧ Below w.heap.size w V ∧ OwMirror V (.agg #[.int .i64 x0.xQ, .slice pw0a0_0 x0.xViews.length cw0a0_0]) x0 bw0a0_0 ∧ OwMirror V (.agg #[.int .i64 x1.xQ, .slice pw0a1_0 x1.xViews.length cw0a1_0]) x1 bw0a1_0 ∧ Blk V nb 28 #[.int .i64 0, .int .i64 0, .slice none 0 0]) (by first | exact ⟨X0.alloc _, X1.alloc _, B.alloc B.size _, w0a0.alloc _, w0a1.alloc _, by rw [hnb]; exact Blk.new _ _ _⟩ | exact ⟨X0.drew.alloc _, X1.drew.alloc _, B.drew.alloc B.drew.size _, w0a0.drew.alloc _, w0a1.drew.alloc _, by rw [hnb]; exact Blk.new _ _ _⟩) ?_; clear hS hnb X0 X1 B w0a0 w0a1; rintro V15 ⟨X0, X1, B, w0a0, w0a1, NB⟩)); refine (HS.out _ _ _ (by exact w0a0.rd) (by exact w0a1.rd)).mono ?_; rintro e w16 ⟨u, bw0_0, rfl, w0, fw0_0, hb16⟩; have FN : ∀ y ∈ bw0_0, V15.heap.size ≤ y := fw0_0; (try have nbn : nb ∉ bw0_0 := (fun hm => Nat.not_lt.2 (FN nb hm) NB.lt)); (try replace NB := NB.keep hb16); obtain ⟨pw0_0, cw0_0, rfl⟩ := w0.shp; have F_w0 : ∀ y ∈ bw0_0, V15.heap.size ≤ y := fw0_0; have dj_w0a0_w0 : Dj bw0a0_0 bw0_0 := fun y hy hm => Nat.not_lt.2 (F_w0 y hm) (w0a0.lt y hy); have dj_w0a1_w0 : Dj bw0a1_0 bw0_0 := fun y hy hm => Nat.not_lt.2 (F_w0 y hm) (w0a1.lt y hy); have nb_X0_w0 : w.heap.size ∉ bw0_0 := fun hm => Nat.not_lt.2 (F_w0 _ hm) X0.lt; have nb_X1_w0 : w.heap.size + 1 ∉ bw0_0 := fun hm => Nat.not_lt.2 (F_w0 _ hm) X1.lt; have G_w0 : ∀ y ∈ bw0_0, w.heap.size ≤ y := fun y hy => Nat.le_trans B.size (F_w0 y hy); clear F_w0; replace X0 := X0.keep hb16; replace X1 := X1.keep hb16; replace w0a0 := w0a0.keep hb16; replace w0a1 := w0a1.keep hb16; replace B := B.trans (hb16.mono B.size); (first | (have _n := NB; clear _n; have FIN : Hid (∀ W, Off [nb] w16 W → Blk W nb 28 #[.int .i64 r.xCode, .int .i64 r.xMirror.xQ, .slice pw0_0 r.xMirror.xViews.length cw0_0] → (∃ nz pw0_0 cw0_0 bw0_0, (Value.pointer (some ⟨nb, 0, none⟩)) = .pointer (some ⟨nz, 0, none⟩) ∧ Blk W (w.heap.size) 24 #[.int .i64 x0.xQ, .slice p0_0 x0.xViews.length c0_0] ∧ Blk W (w.heap.size + 1) 24 #[.int .i64 x1.xQ, .slice p1_0 x1.xViews.length c1_0] ∧ Below w.heap.size w W ∧ OwMirrorResult W (.agg #[.int .i64 r.xCode, .int .i64 r.xMirror.xQ, .slice pw0_0 r.xMirror.xViews.length cw0_0]) r bw0_0 ∧ Blk W (nz) 28 #[.int .i64 r.xCode, .int .i64 r.xMirror.xQ, .slice pw0_0 r.xMirror.xViews.length cw0_0] ∧ w.heap.size ∉ bw0_0 ∧ w.heap.size + 1 ∉ bw0_0 ∧ (∀ y ∈ bw0_0, w.heap.size ≤ y) ∧ nz ∉ bw0_0)) := fun W O N => ⟨_, _, _, bw0_0, rfl, X0.off O (by simp; exact nbx_X0), X1.off O (by simp; exact nbx_X1), B.trans (O.toBelow B.size (by intro g hg; simp at hg; omega)), w0.off O (fun g hg hm => nbn (by simp at hm; rw [← hm]; exact hg)), N, nb_X0_w0, nb_X1_w0, G_w0, nbn⟩; have HSO : Hid (∀ W, Off [nb] w16 W → (∀ o, W.cell? ⟨w.heap.size, o, none⟩ = (#[.int .i64 x0.xQ, .slice p0_0 x0.xViews.length c0_0] : Array Value)[o]?) ∧ (∀ o, W.cell? ⟨w.heap.size + 1, o, none⟩ = (#[.int .i64 x1.xQ, .slice p1_0 x1.xViews.length c1_0] : Array Value)[o]?)) := fun W O => ⟨(X0.off O (by simp; exact nbx_X0)).at.1, (X1.off O (by simp; exact nbx_X1)).at.1⟩; have hnb9 := HNB.out; subst hnb9; have NBa := NB.at.1; have NBb := NB.at.2; have tkK : Hid True := trivial) | (have FIN : Hid (∀ W, Off [] w16 W → Blk W w16.heap.size 28 #[.int .i64 r.xCode, .int .i64 r.xMirror.xQ, .slice pw0_0 r.xMirror.xViews.length cw0_0] → (∃ nz pw0_0 cw0_0 bw0_0, (Value.pointer (some ⟨w16.heap.size, 0, none⟩)) = .pointer (some ⟨nz, 0, none⟩) ∧ Blk W (w.heap.size) 24 #[.int .i64 x0.xQ, .slice p0_0 x0.xViews.length c0_0] ∧ Blk W (w.heap.size + 1) 24 #[.int .i64 x1.xQ, .slice p1_0 x1.xViews.length c1_0] ∧ Below w.heap.size w W ∧ OwMirrorResult W (.agg #[.int .i64 r.xCode, .int .i64 r.xMirror.xQ, .slice pw0_0 r.xMirror.xViews.length cw0_0]) r bw0_0 ∧ Blk W (nz) 28 #[.int .i64 r.xCode, .int .i64 r.xMirror.xQ, .slice pw0_0 r.xMirror.xViews.length cw0_0] ∧ w.heap.size ∉ bw0_0 ∧ w.heap.size + 1 ∉ bw0_0 ∧ (∀ y ∈ bw0_0, w.heap.size ≤ y) ∧ nz ∉ bw0_0)) := fun W O N => ⟨_, _, _, bw0_0, rfl, X0.off O (by simp), X1.off O (by simp), B.trans (O.toBelow B.size (by simp)), w0.off O (fun g hg hm => by cases hm), N, nb_X0_w0, nb_X1_w0, G_w0, (fun hm => Nat.lt_irrefl _ (w0.lt _ hm))⟩; have HSO : Hid (∀ W, Off [] w16 W → (∀ o, W.cell? ⟨w.heap.size, o, none⟩ = (#[.int .i64 x0.xQ, .slice p0_0 x0.xViews.length c0_0] : Array Value)[o]?) ∧ (∀ o, W.cell? ⟨w.heap.size + 1, o, none⟩ = (#[.int .i64 x1.xQ, .slice p1_0 x1.xViews.length c1_0] : Array Value)[o]?)) := fun W O => ⟨(X0.off O (by simp)).at.1, (X1.off O (by simp)).at.1⟩; have tkU : Hid True := trivial)); have hS := (show (∀ o, w16.cell? ⟨w.heap.size, o, none⟩ = (#[.int .i64 x0.xQ, .slice p0_0 x0.xViews.length c0_0] : Array Value)[o]?) ∧ (∀ o, w16.cell? ⟨w.heap.size + 1, o, none⟩ = (#[.int .i64 x1.xQ, .slice p1_0 x1.xViews.length c1_0] : Array Value)[o]?) from ⟨X0.at.1, X1.at.1⟩)))
    all_goals
      go_wp2
      go_meet
      case rel => first | (have _k := tkK; exact FIN.out _ (((((Off.refl _ _).setCell _ _ (by simp)).setCell _ _ (by simp)).setCell _ _ (by simp))) (Blk.of_eq ((((NB.set 0 _).set 1 _).set 2 _)) (by simp))) | (have _u := tkU; exact FIN.out _ ((Off.refl _ _).alloc _) (Blk.new _ _ _))
  case rest =>
    clear X0 X1 B
    obtain ⟨nbw0, pw0_0, cw0_0, bw0_0, rfl, X0, X1, B, w0, Yw0, nb_X0_w0, nb_X1_w0, G_w0, nb_Yw0_w0⟩ := hcut
    obtain ⟨wc17, ewc⟩ : ∃ x : World, x = wc := ⟨_, rfl⟩
    subst ewc
    have X0a := X0.at.1
    have X0l := X0.lt
    have X1a := X1.at.1
    have X1l := X1.lt
    have Yw0a := Yw0.at.1
    have Yw0l := Yw0.lt
    go_wp2_with fail
    clear X0a X0l X1a X1l Yw0a Yw0l
    refine Calls.at (F := fun V => Blk V (w.heap.size) 24 #[.int .i64 x0.xQ, .slice p0_0 x0.xViews.length c0_0] ∧ Blk V (w.heap.size + 1) 24 #[.int .i64 x1.xQ, .slice p1_0 x1.xViews.length c1_0] ∧ Blk V (nbw0) 28 #[.int .i64 r.xCode, .int .i64 r.xMirror.xQ, .slice pw0_0 r.xMirror.xViews.length cw0_0] ∧ Below w.heap.size w V ∧ OwMirrorResult V (.agg #[.int .i64 r.xCode, .int .i64 r.xMirror.xQ, .slice pw0_0 r.xMirror.xViews.length cw0_0]) r bw0_0) ⟨X0, X1, Yw0, B, w0⟩ ?_
    clear X0 X1 Yw0 B w0
    rintro V18 ⟨X0, X1, Yw0, B, w0⟩
    refine (toMirror_ow _ x0 _ (by exact r0.below B) (by omega)).mono ?_
    rintro e w19 ⟨u, bx0c_0, rfl, x0c, fx0c_0, hb19⟩
    obtain ⟨px0c_0, cx0c_0, rfl⟩ := x0c.shp
    have F_x0c : ∀ y ∈ bx0c_0, V18.heap.size ≤ y := fx0c_0
    have dj_w0_x0c : Dj bw0_0 bx0c_0 := fun y hy hm => Nat.not_lt.2 (F_x0c y hm) (w0.lt y hy)
    have nb_X0_x0c : w.heap.size ∉ bx0c_0 := fun hm => Nat.not_lt.2 (F_x0c _ hm) X0.lt
    have nb_X1_x0c : w.heap.size + 1 ∉ bx0c_0 := fun hm => Nat.not_lt.2 (F_x0c _ hm) X1.lt
    have nb_Yw0_x0c : nbw0 ∉ bx0c_0 := fun hm => Nat.not_lt.2 (F_x0c _ hm) Yw0.lt
    have G_x0c : ∀ y ∈ bx0c_0, w.heap.size ≤ y := fun y hy => Nat.le_trans B.size (F_x0c y hy)
    clear F_x0c
    replace X0 := X0.keep hb19
    replace X1 := X1.keep hb19
    replace Yw0 := Yw0.keep hb19
    replace w0 := w0.keep hb19
    replace B := B.trans (hb19.mono B.size)
    have X0a := X0.at.1
    have X0l := X0.lt
    have X1a := X1.at.1
    have X1l := X1.lt
    have Yw0a := Yw0.at.1
    have Yw0l := Yw0.lt
    go_wp2_with fail
    clear X0a X0l X1a X1l Yw0a Yw0l
    have nb_Z0_w0 : w19.heap.size ∉ bw0_0 := fun hm => Nat.lt_irrefl _ (w0.lt _ hm)
    have nb_Z0_x0c : w19.heap.size ∉ bx0c_0 := fun hm => Nat.lt_irrefl _ (x0c.lt _ hm)
    refine Calls.at (F := fun V => Blk V (w.heap.size) 24 #[.int .i64 x0.xQ, .slice p0_0 x0.xViews.length c0_0] ∧ Blk V (w.heap.size + 1) 24 #[.int .i64 x1.xQ, .slice p1_0 x1.xViews.length c1_0] ∧ Blk V (nbw0) 28 #[.int .i64 r.xCode, .int .i64 r.xMirror.xQ, .slice pw0_0 r.xMirror.xViews.length cw0_0] ∧ Blk V (w19.heap.size) 26 #[.int .i64 x0.xQ, .slice px0c_0 x0.xViews.length cx0c_0] ∧ Below w.heap.size w V ∧ OwMirrorResult V (.agg #[.int .i64 r.xCode, .int .i64 r.xMirror.xQ, .slice pw0_0 r.xMirror.xViews.length cw0_0]) r bw0_0 ∧ OwMirror V (.agg #[.int .i64 x0.xQ, .slice px0c_0 x0.xViews.length cx0c_0]) x0 bx0c_0) ⟨X0.alloc _, X1.alloc _, Yw0.alloc _, Blk.new _ _ _, B.alloc B.size _, w0.alloc _, x0c.alloc _⟩ ?_
    clear X0 X1 Yw0 B w0 x0c
    rintro V20 ⟨X0, X1, Yw0, Z0, B, w0, x0c⟩
    refine (toMirror_ow _ x1 _ (by exact r1.below B) (by omega)).mono ?_
    rintro e w21 ⟨u, bx1c_0, rfl, x1c, fx1c_0, hb21⟩
    obtain ⟨px1c_0, cx1c_0, rfl⟩ := x1c.shp
    have F_x1c : ∀ y ∈ bx1c_0, V20.heap.size ≤ y := fx1c_0
    have dj_w0_x1c : Dj bw0_0 bx1c_0 := fun y hy hm => Nat.not_lt.2 (F_x1c y hm) (w0.lt y hy)
    have dj_x0c_x1c : Dj bx0c_0 bx1c_0 := fun y hy hm => Nat.not_lt.2 (F_x1c y hm) (x0c.lt y hy)
    have nb_X0_x1c : w.heap.size ∉ bx1c_0 := fun hm => Nat.not_lt.2 (F_x1c _ hm) X0.lt
    have nb_X1_x1c : w.heap.size + 1 ∉ bx1c_0 := fun hm => Nat.not_lt.2 (F_x1c _ hm) X1.lt
    have nb_Yw0_x1c : nbw0 ∉ bx1c_0 := fun hm => Nat.not_lt.2 (F_x1c _ hm) Yw0.lt
    have nb_Z0_x1c : w19.heap.size ∉ bx1c_0 := fun hm => Nat.not_lt.2 (F_x1c _ hm) Z0.lt
    have G_x1c : ∀ y ∈ bx1c_0, w.heap.size ≤ y := fun y hy => Nat.le_trans B.size (F_x1c y hy)
    clear F_x1c
    replace X0 := X0.keep hb21
    replace X1 := X1.keep hb21
    replace Yw0 := Yw0.keep hb21
    replace Z0 := Z0.keep hb21
    replace w0 := w0.keep hb21
    replace x0c := x0c.keep hb21
    replace B := B.trans (hb21.mono B.size)
    have X0a := X0.at.1
    have X0l := X0.lt
    have X1a := X1.at.1
    have X1l := X1.lt
    have Yw0a := Yw0.at.1
    have Yw0l := Yw0.lt
    have Z0a := Z0.at.1
    have Z0l := Z0.lt
    go_wp2_with fail
    clear X0a X0l X1a X1l Yw0a Yw0l Z0a Z0l
    have nb_Z1_w0 : w21.heap.size ∉ bw0_0 := fun hm => Nat.lt_irrefl _ (w0.lt _ hm)
    have nb_Z1_x0c : w21.heap.size ∉ bx0c_0 := fun hm => Nat.lt_irrefl _ (x0c.lt _ hm)
    have nb_Z1_x1c : w21.heap.size ∉ bx1c_0 := fun hm => Nat.lt_irrefl _ (x1c.lt _ hm)
    refine Calls.at (F := fun V => Blk V (w.heap.size) 24 #[.int .i64 x0.xQ, .slice p0_0 x0.xViews.length c0_0] ∧ Blk V (w.heap.size + 1) 24 #[.int .i64 x1.xQ, .slice p1_0 x1.xViews.length c1_0] ∧ Blk V (nbw0) 28 #[.int .i64 r.xCode, .int .i64 r.xMirror.xQ, .slice pw0_0 r.xMirror.xViews.length cw0_0] ∧ Blk V (w19.heap.size) 26 #[.int .i64 x0.xQ, .slice px0c_0 x0.xViews.length cx0c_0] ∧ Blk V (w21.heap.size) 26 #[.int .i64 x1.xQ, .slice px1c_0 x1.xViews.length cx1c_0] ∧ Below w.heap.size w V ∧ OwMirrorResult V (.agg #[.int .i64 r.xCode, .int .i64 r.xMirror.xQ, .slice pw0_0 r.xMirror.xViews.length cw0_0]) r bw0_0 ∧ OwMirror V (.agg #[.int .i64 x0.xQ, .slice px0c_0 x0.xViews.length cx0c_0]) x0 bx0c_0 ∧ OwMirror V (.agg #[.int .i64 x1.xQ, .slice px1c_0 x1.xViews.length cx1c_0]) x1 bx1c_0) ⟨X0.alloc _, X1.alloc _, Yw0.alloc _, Z0.alloc _, Blk.new _ _ _, B.alloc B.size _, w0.alloc _, x0c.alloc _, x1c.alloc _⟩ ?_
    clear X0 X1 Yw0 Z0 B w0 x0c x1c
    rintro V22 ⟨X0, X1, Yw0, Z0, Z1, B, w0, x0c, x1c⟩
    refine (HI.out _ _ _ (by exact x0c.rd) (by exact x1c.rd)).mono ?_
    rintro e w23 ⟨u, bg0_0, rfl, g0, fg0_0, hb23⟩
    obtain ⟨pg0_0, cg0_0, rfl⟩ := g0.shp
    have F_g0 : ∀ y ∈ bg0_0, V22.heap.size ≤ y := fg0_0
    have dj_w0_g0 : Dj bw0_0 bg0_0 := fun y hy hm => Nat.not_lt.2 (F_g0 y hm) (w0.lt y hy)
    have dj_x0c_g0 : Dj bx0c_0 bg0_0 := fun y hy hm => Nat.not_lt.2 (F_g0 y hm) (x0c.lt y hy)
    have dj_x1c_g0 : Dj bx1c_0 bg0_0 := fun y hy hm => Nat.not_lt.2 (F_g0 y hm) (x1c.lt y hy)
    have nb_X0_g0 : w.heap.size ∉ bg0_0 := fun hm => Nat.not_lt.2 (F_g0 _ hm) X0.lt
    have nb_X1_g0 : w.heap.size + 1 ∉ bg0_0 := fun hm => Nat.not_lt.2 (F_g0 _ hm) X1.lt
    have nb_Yw0_g0 : nbw0 ∉ bg0_0 := fun hm => Nat.not_lt.2 (F_g0 _ hm) Yw0.lt
    have nb_Z0_g0 : w19.heap.size ∉ bg0_0 := fun hm => Nat.not_lt.2 (F_g0 _ hm) Z0.lt
    have nb_Z1_g0 : w21.heap.size ∉ bg0_0 := fun hm => Nat.not_lt.2 (F_g0 _ hm) Z1.lt
    have G_g0 : ∀ y ∈ bg0_0, w.heap.size ≤ y := fun y hy => Nat.le_trans B.size (F_g0 y hy)
    clear F_g0
    replace X0 := X0.keep hb23
    replace X1 := X1.keep hb23
    replace Yw0 := Yw0.keep hb23
    replace Z0 := Z0.keep hb23
    replace Z1 := Z1.keep hb23
    replace w0 := w0.keep hb23
    replace x0c := x0c.keep hb23
    replace x1c := x1c.keep hb23
    replace B := B.trans (hb23.mono B.size)
    have X0a := X0.at.1
    have X0l := X0.lt
    have X1a := X1.at.1
    have X1l := X1.lt
    have Yw0a := Yw0.at.1
    have Yw0l := Yw0.lt
    have Z0a := Z0.at.1
    have Z0l := Z0.lt
    have Z1a := Z1.at.1
    have Z1l := Z1.lt
    go_wp2_with fail
    clear X0a X0l X1a X1l Yw0a Yw0l Z0a Z0l Z1a Z1l
    have nb_Yg0_w0 : w23.heap.size ∉ bw0_0 := fun hm => Nat.lt_irrefl _ (w0.lt _ hm)
    have nb_Yg0_x0c : w23.heap.size ∉ bx0c_0 := fun hm => Nat.lt_irrefl _ (x0c.lt _ hm)
    have nb_Yg0_x1c : w23.heap.size ∉ bx1c_0 := fun hm => Nat.lt_irrefl _ (x1c.lt _ hm)
    have nb_Yg0_g0 : w23.heap.size ∉ bg0_0 := fun hm => Nat.lt_irrefl _ (g0.lt _ hm)
    refine Calls.at (F := fun V => Blk V (w.heap.size) 24 #[.int .i64 x0.xQ, .slice p0_0 x0.xViews.length c0_0] ∧ Blk V (w.heap.size + 1) 24 #[.int .i64 x1.xQ, .slice p1_0 x1.xViews.length c1_0] ∧ Blk V (nbw0) 28 #[.int .i64 r.xCode, .int .i64 r.xMirror.xQ, .slice pw0_0 r.xMirror.xViews.length cw0_0] ∧ Blk V (w19.heap.size) 26 #[.int .i64 x0.xQ, .slice px0c_0 x0.xViews.length cx0c_0] ∧ Blk V (w21.heap.size) 26 #[.int .i64 x1.xQ, .slice px1c_0 x1.xViews.length cx1c_0] ∧ Blk V (w23.heap.size) 28 #[.int .i64 r.xCode, .int .i64 r.xMirror.xQ, .slice pg0_0 r.xMirror.xViews.length cg0_0] ∧ Below w.heap.size w V ∧ OwMirrorResult V (.agg #[.int .i64 r.xCode, .int .i64 r.xMirror.xQ, .slice pw0_0 r.xMirror.xViews.length cw0_0]) r bw0_0 ∧ OwMirror V (.agg #[.int .i64 x0.xQ, .slice px0c_0 x0.xViews.length cx0c_0]) x0 bx0c_0 ∧ OwMirror V (.agg #[.int .i64 x1.xQ, .slice px1c_0 x1.xViews.length cx1c_0]) x1 bx1c_0 ∧ OwMirrorResult V (.agg #[.int .i64 r.xCode, .int .i64 r.xMirror.xQ, .slice pg0_0 r.xMirror.xViews.length cg0_0]) r bg0_0) ⟨X0.alloc _, X1.alloc _, Yw0.alloc _, Z0.alloc _, Z1.alloc _, Blk.new _ _ _, B.alloc B.size _, w0.alloc _, x0c.alloc _, x1c.alloc _, g0.alloc _⟩ ?_
    clear X0 X1 Yw0 Z0 Z1 B w0 x0c x1c g0
    rintro V24 ⟨X0, X1, Yw0, Z0, Z1, Yg0, B, w0, x0c, x1c, g0⟩
    refine (eqMirrorResult_rd _ _ r _ (by exact g0.rd) (by exact w0.rd)).mono ?_
    rintro e w25 ⟨rfl, hb25⟩
    replace X0 := X0.keep hb25
    replace X1 := X1.keep hb25
    replace Yw0 := Yw0.keep hb25
    replace Z0 := Z0.keep hb25
    replace Z1 := Z1.keep hb25
    replace Yg0 := Yg0.keep hb25
    replace w0 := w0.keep hb25
    replace x0c := x0c.keep hb25
    replace x1c := x1c.keep hb25
    replace g0 := g0.keep hb25
    replace B := B.trans (hb25.mono B.size)
    have X0a := X0.at.1
    have X0l := X0.lt
    have X1a := X1.at.1
    have X1l := X1.lt
    have Yw0a := Yw0.at.1
    have Yw0l := Yw0.lt
    have Z0a := Z0.at.1
    have Z0l := Z0.lt
    have Z1a := Z1.at.1
    have Z1l := Z1.lt
    have Yg0a := Yg0.at.1
    have Yg0l := Yg0.lt
    go_wp2_with fail
    clear X0a X0l X1a X1l Yw0a Yw0l Z0a Z0l Z1a Z1l Yg0a Yg0l
    have Z0S := Z0.at.1
    have X0S := X0.at.1
    have hS : (∀ o, w25.cell? ⟨w19.heap.size, o, none⟩ = (#[.int .i64 x0.xQ, .slice px0c_0 x0.xViews.length cx0c_0] : Array Value)[o]?) ∧ (∀ o, w25.cell? ⟨w.heap.size, o, none⟩ = (#[.int .i64 x0.xQ, .slice p0_0 x0.xViews.length c0_0] : Array Value)[o]?) := ⟨Z0S, X0S⟩
    clear Z0S X0S
    have tk0 : Hid True := trivial
    have tk1 : Hid True := trivial
    go_region_held3 (fun V => (∀ o, V.cell? ⟨w19.heap.size, o, none⟩ = (#[.int .i64 x0.xQ, .slice px0c_0 x0.xViews.length cx0c_0] : Array Value)[o]?) ∧ (∀ o, V.cell? ⟨w.heap.size, o, none⟩ = (#[.int .i64 x0.xQ, .slice p0_0 x0.xViews.length c0_0] : Array Value)[o]?)) (first | exact hS | exact ⟨(Z0.alloc _).at.1, (X0.alloc _).at.1⟩) (first | (go_at_call 11; have _t := tk0; clear _t tk0; refine Calls.at (F := fun V => Blk V (w.heap.size) 24 #[.int .i64 x0.xQ, .slice p0_0 x0.xViews.length c0_0] ∧ Blk V (w.heap.size + 1) 24 #[.int .i64 x1.xQ, .slice p1_0 x1.xViews.length c1_0] ∧ Blk V (nbw0) 28 #[.int .i64 r.xCode, .int .i64 r.xMirror.xQ, .slice pw0_0 r.xMirror.xViews.length cw0_0] ∧ Blk V (w19.heap.size) 26 #[.int .i64 x0.xQ, .slice px0c_0 x0.xViews.length cx0c_0] ∧ Blk V (w21.heap.size) 26 #[.int .i64 x1.xQ, .slice px1c_0 x1.xViews.length cx1c_0] ∧ Blk V (w23.heap.size) 28 #[.int .i64 r.xCode, .int .i64 r.xMirror.xQ, .slice pg0_0 r.xMirror.xViews.length cg0_0] ∧ Below w.heap.size w V ∧ OwMirrorResult V (.agg #[.int .i64 r.xCode, .int .i64 r.xMirror.xQ, .slice pw0_0 r.xMirror.xViews.length cw0_0]) r bw0_0 ∧ OwMirror V (.agg #[.int .i64 x0.xQ, .slice px0c_0 x0.xViews.length cx0c_0]) x0 bx0c_0 ∧ OwMirror V (.agg #[.int .i64 x1.xQ, .slice px1c_0 x1.xViews.length cx1c_0]) x1 bx1c_0 ∧ OwMirrorResult V (.agg #[.int .i64 r.xCode, .int .i64 r.xMirror.xQ, .slice pg0_0 r.xMirror.xViews.length cg0_0]) r bg0_0) ?_ ?_; (first | exact ⟨X0, X1, Yw0, Z0, Z1, Yg0, B, w0, x0c, x1c, g0⟩ | exact ⟨X0.drew, X1.drew, Yw0.drew, Z0.drew, Z1.drew, Yg0.drew, B.drew, w0.drew, x0c.drew, x1c.drew, g0.drew⟩); clear hS X0 X1 Yw0 Z0 Z1 Yg0 B w0 x0c x1c g0; rintro V26 ⟨X0, X1, Yw0, Z0, Z1, Yg0, B, w0, x0c, x1c, g0⟩; refine (toMirror_ow _ x0 _ (by exact r0.below B) (by omega)).mono ?_; rintro e w27 ⟨u, by0_0, rfl, y0, fy0_0, hb27⟩; obtain ⟨py0_0, cy0_0, rfl⟩ := y0.shp; have F_y0 : ∀ y ∈ by0_0, V26.heap.size ≤ y := fy0_0; have dj_w0_y0 : Dj bw0_0 by0_0 := fun y hy hm => Nat.not_lt.2 (F_y0 y hm) (w0.lt y hy); have dj_x0c_y0 : Dj bx0c_0 by0_0 := fun y hy hm => Nat.not_lt.2 (F_y0 y hm) (x0c.lt y hy); have dj_x1c_y0 : Dj bx1c_0 by0_0 := fun y hy hm => Nat.not_lt.2 (F_y0 y hm) (x1c.lt y hy); have dj_g0_y0 : Dj bg0_0 by0_0 := fun y hy hm => Nat.not_lt.2 (F_y0 y hm) (g0.lt y hy); have nb_X0_y0 : w.heap.size ∉ by0_0 := fun hm => Nat.not_lt.2 (F_y0 _ hm) X0.lt; have nb_X1_y0 : w.heap.size + 1 ∉ by0_0 := fun hm => Nat.not_lt.2 (F_y0 _ hm) X1.lt; have nb_Yw0_y0 : nbw0 ∉ by0_0 := fun hm => Nat.not_lt.2 (F_y0 _ hm) Yw0.lt; have nb_Z0_y0 : w19.heap.size ∉ by0_0 := fun hm => Nat.not_lt.2 (F_y0 _ hm) Z0.lt; have nb_Z1_y0 : w21.heap.size ∉ by0_0 := fun hm => Nat.not_lt.2 (F_y0 _ hm) Z1.lt; have nb_Yg0_y0 : w23.heap.size ∉ by0_0 := fun hm => Nat.not_lt.2 (F_y0 _ hm) Yg0.lt; have G_y0 : ∀ y ∈ by0_0, w.heap.size ≤ y := fun y hy => Nat.le_trans B.size (F_y0 y hy); clear F_y0; replace X0 := X0.keep hb27; replace X1 := X1.keep hb27; replace Yw0 := Yw0.keep hb27; replace Z0 := Z0.keep hb27; replace Z1 := Z1.keep hb27; replace Yg0 := Yg0.keep hb27; replace w0 := w0.keep hb27; replace x0c := x0c.keep hb27; replace x1c := x1c.keep hb27; replace g0 := g0.keep hb27; replace B := B.trans (hb27.mono B.size); have hS := (show (∀ o, w27.cell? ⟨w19.heap.size, o, none⟩ = (#[.int .i64 x0.xQ, .slice px0c_0 x0.xViews.length cx0c_0] : Array Value)[o]?) ∧ (∀ o, w27.cell? ⟨w.heap.size, o, none⟩ = (#[.int .i64 x0.xQ, .slice p0_0 x0.xViews.length c0_0] : Array Value)[o]?) from ⟨Z0.at.1, X0.at.1⟩)) | (go_at_call 14; have _t := tk1; clear _t tk1; refine Calls.at (F := fun V => Blk V (w.heap.size) 24 #[.int .i64 x0.xQ, .slice p0_0 x0.xViews.length c0_0] ∧ Blk V (w.heap.size + 1) 24 #[.int .i64 x1.xQ, .slice p1_0 x1.xViews.length c1_0] ∧ Blk V (nbw0) 28 #[.int .i64 r.xCode, .int .i64 r.xMirror.xQ, .slice pw0_0 r.xMirror.xViews.length cw0_0] ∧ Blk V (w19.heap.size) 26 #[.int .i64 x0.xQ, .slice px0c_0 x0.xViews.length cx0c_0] ∧ Blk V (w21.heap.size) 26 #[.int .i64 x1.xQ, .slice px1c_0 x1.xViews.length cx1c_0] ∧ Blk V (w23.heap.size) 28 #[.int .i64 r.xCode, .int .i64 r.xMirror.xQ, .slice pg0_0 r.xMirror.xViews.length cg0_0] ∧ Below w.heap.size w V ∧ OwMirrorResult V (.agg #[.int .i64 r.xCode, .int .i64 r.xMirror.xQ, .slice pw0_0 r.xMirror.xViews.length cw0_0]) r bw0_0 ∧ OwMirror V (.agg #[.int .i64 x0.xQ, .slice px0c_0 x0.xViews.length cx0c_0]) x0 bx0c_0 ∧ OwMirror V (.agg #[.int .i64 x1.xQ, .slice px1c_0 x1.xViews.length cx1c_0]) x1 bx1c_0 ∧ OwMirrorResult V (.agg #[.int .i64 r.xCode, .int .i64 r.xMirror.xQ, .slice pg0_0 r.xMirror.xViews.length cg0_0]) r bg0_0 ∧ OwMirror V (.agg #[.int .i64 x0.xQ, .slice py0_0 x0.xViews.length cy0_0]) x0 by0_0) ?_ ?_; (first | exact ⟨X0, X1, Yw0, Z0, Z1, Yg0, B, w0, x0c, x1c, g0, y0⟩ | exact ⟨X0.drew, X1.drew, Yw0.drew, Z0.drew, Z1.drew, Yg0.drew, B.drew, w0.drew, x0c.drew, x1c.drew, g0.drew, y0.drew⟩); clear hS X0 X1 Yw0 Z0 Z1 Yg0 B w0 x0c x1c g0 y0; rintro V28 ⟨X0, X1, Yw0, Z0, Z1, Yg0, B, w0, x0c, x1c, g0, y0⟩; refine (eqMirror_rd _ _ x0 _ (by exact x0c.rd) (by exact y0.rd)).mono ?_; rintro e w29 ⟨rfl, hb29⟩; replace X0 := X0.keep hb29; replace X1 := X1.keep hb29; replace Yw0 := Yw0.keep hb29; replace Z0 := Z0.keep hb29; replace Z1 := Z1.keep hb29; replace Yg0 := Yg0.keep hb29; replace w0 := w0.keep hb29; replace x0c := x0c.keep hb29; replace x1c := x1c.keep hb29; replace g0 := g0.keep hb29; replace y0 := y0.keep hb29; replace B := B.trans (hb29.mono B.size); have hS := (show (∀ o, w29.cell? ⟨w19.heap.size, o, none⟩ = (#[.int .i64 x0.xQ, .slice px0c_0 x0.xViews.length cx0c_0] : Array Value)[o]?) ∧ (∀ o, w29.cell? ⟨w.heap.size, o, none⟩ = (#[.int .i64 x0.xQ, .slice p0_0 x0.xViews.length c0_0] : Array Value)[o]?) from ⟨Z0.at.1, X0.at.1⟩)))
    clear hS
    clear y0 G_y0
    have X0a := X0.at.1
    have X0l := X0.lt
    have X1a := X1.at.1
    have X1l := X1.lt
    have Yw0a := Yw0.at.1
    have Yw0l := Yw0.lt
    have Z0a := Z0.at.1
    have Z0l := Z0.lt
    have Z1a := Z1.at.1
    have Z1l := Z1.lt
    have Yg0a := Yg0.at.1
    have Yg0l := Yg0.lt
    go_wp2_with fail
    clear X0a X0l X1a X1l Yw0a Yw0l Z0a Z0l Z1a Z1l Yg0a Yg0l
    have Z1S := Z1.at.1
    have X1S := X1.at.1
    have hS : (∀ o, w29.cell? ⟨w21.heap.size, o, none⟩ = (#[.int .i64 x1.xQ, .slice px1c_0 x1.xViews.length cx1c_0] : Array Value)[o]?) ∧ (∀ o, w29.cell? ⟨w.heap.size + 1, o, none⟩ = (#[.int .i64 x1.xQ, .slice p1_0 x1.xViews.length c1_0] : Array Value)[o]?) := ⟨Z1S, X1S⟩
    clear Z1S X1S
    have tk0 : Hid True := trivial
    have tk1 : Hid True := trivial
    go_region_held3 (fun V => (∀ o, V.cell? ⟨w21.heap.size, o, none⟩ = (#[.int .i64 x1.xQ, .slice px1c_0 x1.xViews.length cx1c_0] : Array Value)[o]?) ∧ (∀ o, V.cell? ⟨w.heap.size + 1, o, none⟩ = (#[.int .i64 x1.xQ, .slice p1_0 x1.xViews.length c1_0] : Array Value)[o]?)) (first | exact hS | exact ⟨(Z1.alloc _).at.1, (X1.alloc _).at.1⟩) (first | (go_at_call 11; have _t := tk0; clear _t tk0; refine Calls.at (F := fun V => Blk V (w.heap.size) 24 #[.int .i64 x0.xQ, .slice p0_0 x0.xViews.length c0_0] ∧ Blk V (w.heap.size + 1) 24 #[.int .i64 x1.xQ, .slice p1_0 x1.xViews.length c1_0] ∧ Blk V (nbw0) 28 #[.int .i64 r.xCode, .int .i64 r.xMirror.xQ, .slice pw0_0 r.xMirror.xViews.length cw0_0] ∧ Blk V (w19.heap.size) 26 #[.int .i64 x0.xQ, .slice px0c_0 x0.xViews.length cx0c_0] ∧ Blk V (w21.heap.size) 26 #[.int .i64 x1.xQ, .slice px1c_0 x1.xViews.length cx1c_0] ∧ Blk V (w23.heap.size) 28 #[.int .i64 r.xCode, .int .i64 r.xMirror.xQ, .slice pg0_0 r.xMirror.xViews.length cg0_0] ∧ Below w.heap.size w V ∧ OwMirrorResult V (.agg #[.int .i64 r.xCode, .int .i64 r.xMirror.xQ, .slice pw0_0 r.xMirror.xViews.length cw0_0]) r bw0_0 ∧ OwMirror V (.agg #[.int .i64 x0.xQ, .slice px0c_0 x0.xViews.length cx0c_0]) x0 bx0c_0 ∧ OwMirror V (.agg #[.int .i64 x1.xQ, .slice px1c_0 x1.xViews.length cx1c_0]) x1 bx1c_0 ∧ OwMirrorResult V (.agg #[.int .i64 r.xCode, .int .i64 r.xMirror.xQ, .slice pg0_0 r.xMirror.xViews.length cg0_0]) r bg0_0) ?_ ?_; (first | exact ⟨X0, X1, Yw0, Z0, Z1, Yg0, B, w0, x0c, x1c, g0⟩ | exact ⟨X0.drew, X1.drew, Yw0.drew, Z0.drew, Z1.drew, Yg0.drew, B.drew, w0.drew, x0c.drew, x1c.drew, g0.drew⟩); clear hS X0 X1 Yw0 Z0 Z1 Yg0 B w0 x0c x1c g0; rintro V30 ⟨X0, X1, Yw0, Z0, Z1, Yg0, B, w0, x0c, x1c, g0⟩; refine (toMirror_ow _ x1 _ (by exact r1.below B) (by omega)).mono ?_; rintro e w31 ⟨u, by1_0, rfl, y1, fy1_0, hb31⟩; obtain ⟨py1_0, cy1_0, rfl⟩ := y1.shp; have F_y1 : ∀ y ∈ by1_0, V30.heap.size ≤ y := fy1_0; have dj_w0_y1 : Dj bw0_0 by1_0 := fun y hy hm => Nat.not_lt.2 (F_y1 y hm) (w0.lt y hy); have dj_x0c_y1 : Dj bx0c_0 by1_0 := fun y hy hm => Nat.not_lt.2 (F_y1 y hm) (x0c.lt y hy); have dj_x1c_y1 : Dj bx1c_0 by1_0 := fun y hy hm => Nat.not_lt.2 (F_y1 y hm) (x1c.lt y hy); have dj_g0_y1 : Dj bg0_0 by1_0 := fun y hy hm => Nat.not_lt.2 (F_y1 y hm) (g0.lt y hy); have nb_X0_y1 : w.heap.size ∉ by1_0 := fun hm => Nat.not_lt.2 (F_y1 _ hm) X0.lt; have nb_X1_y1 : w.heap.size + 1 ∉ by1_0 := fun hm => Nat.not_lt.2 (F_y1 _ hm) X1.lt; have nb_Yw0_y1 : nbw0 ∉ by1_0 := fun hm => Nat.not_lt.2 (F_y1 _ hm) Yw0.lt; have nb_Z0_y1 : w19.heap.size ∉ by1_0 := fun hm => Nat.not_lt.2 (F_y1 _ hm) Z0.lt; have nb_Z1_y1 : w21.heap.size ∉ by1_0 := fun hm => Nat.not_lt.2 (F_y1 _ hm) Z1.lt; have nb_Yg0_y1 : w23.heap.size ∉ by1_0 := fun hm => Nat.not_lt.2 (F_y1 _ hm) Yg0.lt; have G_y1 : ∀ y ∈ by1_0, w.heap.size ≤ y := fun y hy => Nat.le_trans B.size (F_y1 y hy); clear F_y1; replace X0 := X0.keep hb31; replace X1 := X1.keep hb31; replace Yw0 := Yw0.keep hb31; replace Z0 := Z0.keep hb31; replace Z1 := Z1.keep hb31; replace Yg0 := Yg0.keep hb31; replace w0 := w0.keep hb31; replace x0c := x0c.keep hb31; replace x1c := x1c.keep hb31; replace g0 := g0.keep hb31; replace B := B.trans (hb31.mono B.size); have hS := (show (∀ o, w31.cell? ⟨w21.heap.size, o, none⟩ = (#[.int .i64 x1.xQ, .slice px1c_0 x1.xViews.length cx1c_0] : Array Value)[o]?) ∧ (∀ o, w31.cell? ⟨w.heap.size + 1, o, none⟩ = (#[.int .i64 x1.xQ, .slice p1_0 x1.xViews.length c1_0] : Array Value)[o]?) from ⟨Z1.at.1, X1.at.1⟩)) | (go_at_call 14; have _t := tk1; clear _t tk1; refine Calls.at (F := fun V => Blk V (w.heap.size) 24 #[.int .i64 x0.xQ, .slice p0_0 x0.xViews.length c0_0] ∧ Blk V (w.heap.size + 1) 24 #[.int .i64 x1.xQ, .slice p1_0 x1.xViews.length c1_0] ∧ Blk V (nbw0) 28 #[.int .i64 r.xCode, .int .i64 r.xMirror.xQ, .slice pw0_0 r.xMirror.xViews.length cw0_0] ∧ Blk V (w19.heap.size) 26 #[.int .i64 x0.xQ, .slice px0c_0 x0.xViews.length cx0c_0] ∧ Blk V (w21.heap.size) 26 #[.int .i64 x1.xQ, .slice px1c_0 x1.xViews.length cx1c_0] ∧ Blk V (w23.heap.size) 28 #[.int .i64 r.xCode, .int .i64 r.xMirror.xQ, .slice pg0_0 r.xMirror.xViews.length cg0_0] ∧ Below w.heap.size w V ∧ OwMirrorResult V (.agg #[.int .i64 r.xCode, .int .i64 r.xMirror.xQ, .slice pw0_0 r.xMirror.xViews.length cw0_0]) r bw0_0 ∧ OwMirror V (.agg #[.int .i64 x0.xQ, .slice px0c_0 x0.xViews.length cx0c_0]) x0 bx0c_0 ∧ OwMirror V (.agg #[.int .i64 x1.xQ, .slice px1c_0 x1.xViews.length cx1c_0]) x1 bx1c_0 ∧ OwMirrorResult V (.agg #[.int .i64 r.xCode, .int .i64 r.xMirror.xQ, .slice pg0_0 r.xMirror.xViews.length cg0_0]) r bg0_0 ∧ OwMirror V (.agg #[.int .i64 x1.xQ, .slice py1_0 x1.xViews.length cy1_0]) x1 by1_0) ?_ ?_; (first | exact ⟨X0, X1, Yw0, Z0, Z1, Yg0, B, w0, x0c, x1c, g0, y1⟩ | exact ⟨X0.drew, X1.drew, Yw0.drew, Z0.drew, Z1.drew, Yg0.drew, B.drew, w0.drew, x0c.drew, x1c.drew, g0.drew, y1.drew⟩); clear hS X0 X1 Yw0 Z0 Z1 Yg0 B w0 x0c x1c g0 y1; rintro V32 ⟨X0, X1, Yw0, Z0, Z1, Yg0, B, w0, x0c, x1c, g0, y1⟩; refine (eqMirror_rd _ _ x1 _ (by exact x1c.rd) (by exact y1.rd)).mono ?_; rintro e w33 ⟨rfl, hb33⟩; replace X0 := X0.keep hb33; replace X1 := X1.keep hb33; replace Yw0 := Yw0.keep hb33; replace Z0 := Z0.keep hb33; replace Z1 := Z1.keep hb33; replace Yg0 := Yg0.keep hb33; replace w0 := w0.keep hb33; replace x0c := x0c.keep hb33; replace x1c := x1c.keep hb33; replace g0 := g0.keep hb33; replace y1 := y1.keep hb33; replace B := B.trans (hb33.mono B.size); have hS := (show (∀ o, w33.cell? ⟨w21.heap.size, o, none⟩ = (#[.int .i64 x1.xQ, .slice px1c_0 x1.xViews.length cx1c_0] : Array Value)[o]?) ∧ (∀ o, w33.cell? ⟨w.heap.size + 1, o, none⟩ = (#[.int .i64 x1.xQ, .slice p1_0 x1.xViews.length c1_0] : Array Value)[o]?) from ⟨Z1.at.1, X1.at.1⟩)))
    clear hS
    clear y1 G_y1
    have X0a := X0.at.1
    have X0l := X0.lt
    have X1a := X1.at.1
    have X1l := X1.lt
    have Yw0a := Yw0.at.1
    have Yw0l := Yw0.lt
    have Z0a := Z0.at.1
    have Z0l := Z0.lt
    have Z1a := Z1.at.1
    have Z1l := Z1.lt
    have Yg0a := Yg0.at.1
    have Yg0l := Yg0.lt
    go_wp2_with fail
    clear X0a X0l X1a X1l Yw0a Yw0l Z0a Z0l Z1a Z1l Yg0a Yg0l
    refine Calls.at (F := fun V => Blk V (w.heap.size) 24 #[.int .i64 x0.xQ, .slice p0_0 x0.xViews.length c0_0] ∧ Blk V (w.heap.size + 1) 24 #[.int .i64 x1.xQ, .slice p1_0 x1.xViews.length c1_0] ∧ Blk V (nbw0) 28 #[.int .i64 r.xCode, .int .i64 r.xMirror.xQ, .slice pw0_0 r.xMirror.xViews.length cw0_0] ∧ Blk V (w19.heap.size) 26 #[.int .i64 x0.xQ, .slice px0c_0 x0.xViews.length cx0c_0] ∧ Blk V (w21.heap.size) 26 #[.int .i64 x1.xQ, .slice px1c_0 x1.xViews.length cx1c_0] ∧ Blk V (w23.heap.size) 28 #[.int .i64 r.xCode, .int .i64 r.xMirror.xQ, .slice pg0_0 r.xMirror.xViews.length cg0_0] ∧ Below w.heap.size w V ∧ OwMirrorResult V (.agg #[.int .i64 r.xCode, .int .i64 r.xMirror.xQ, .slice pw0_0 r.xMirror.xViews.length cw0_0]) r bw0_0 ∧ OwMirror V (.agg #[.int .i64 x0.xQ, .slice px0c_0 x0.xViews.length cx0c_0]) x0 bx0c_0 ∧ OwMirror V (.agg #[.int .i64 x1.xQ, .slice px1c_0 x1.xViews.length cx1c_0]) x1 bx1c_0 ∧ OwMirrorResult V (.agg #[.int .i64 r.xCode, .int .i64 r.xMirror.xQ, .slice pg0_0 r.xMirror.xViews.length cg0_0]) r bg0_0) ⟨X0, X1, Yw0, Z0, Z1, Yg0, B, w0, x0c, x1c, g0⟩ ?_
    clear X0 X1 Yw0 Z0 Z1 Yg0 B w0 x0c x1c g0
    rintro V34 ⟨X0, X1, Yw0, Z0, Z1, Yg0, B, w0, x0c, x1c, g0⟩
    refine (markMirror_ow _ x0 bx0c_0 _ _ (by exact x0c) (by omega) (by omega)).mono ?_
    rintro e w35 ⟨rfl, mm, oo⟩
    replace X0 := X0.off oo nb_X0_x0c
    replace X1 := X1.off oo nb_X1_x0c
    replace Yw0 := Yw0.off oo nb_Yw0_x0c
    replace Z0 := Z0.off oo nb_Z0_x0c
    replace Z1 := Z1.off oo nb_Z1_x0c
    replace Yg0 := Yg0.off oo nb_Yg0_x0c
    replace w0 := w0.off oo dj_w0_x0c
    replace x1c := x1c.off oo dj_x0c_x1c.symm
    replace g0 := g0.off oo dj_x0c_g0.symm
    replace B := B.trans (oo.toBelow B.size G_x0c)
    clear x0c
    have x0c := mm
    clear mm
    have X0a := X0.at.1
    have X0l := X0.lt
    have X1a := X1.at.1
    have X1l := X1.lt
    have Yw0a := Yw0.at.1
    have Yw0l := Yw0.lt
    have Z0a := Z0.at.1
    have Z0l := Z0.lt
    have Z1a := Z1.at.1
    have Z1l := Z1.lt
    have Yg0a := Yg0.at.1
    have Yg0l := Yg0.lt
    go_wp2_with fail
    clear X0a X0l X1a X1l Yw0a Yw0l Z0a Z0l Z1a Z1l Yg0a Yg0l
    refine Calls.at (F := fun V => Blk V (w.heap.size) 24 #[.int .i64 x0.xQ, .slice p0_0 x0.xViews.length c0_0] ∧ Blk V (w.heap.size + 1) 24 #[.int .i64 x1.xQ, .slice p1_0 x1.xViews.length c1_0] ∧ Blk V (nbw0) 28 #[.int .i64 r.xCode, .int .i64 r.xMirror.xQ, .slice pw0_0 r.xMirror.xViews.length cw0_0] ∧ Blk V (w19.heap.size) 26 #[.int .i64 x0.xQ, .slice px0c_0 x0.xViews.length cx0c_0] ∧ Blk V (w21.heap.size) 26 #[.int .i64 x1.xQ, .slice px1c_0 x1.xViews.length cx1c_0] ∧ Blk V (w23.heap.size) 28 #[.int .i64 r.xCode, .int .i64 r.xMirror.xQ, .slice pg0_0 r.xMirror.xViews.length cg0_0] ∧ Below w.heap.size w V ∧ OwMirrorResult V (.agg #[.int .i64 r.xCode, .int .i64 r.xMirror.xQ, .slice pw0_0 r.xMirror.xViews.length cw0_0]) r bw0_0 ∧ OwMirror V (.agg #[.int .i64 x0.xQ, .slice px0c_0 x0.xViews.length cx0c_0]) (mkMirror 1 x0) bx0c_0 ∧ OwMirror V (.agg #[.int .i64 x1.xQ, .slice px1c_0 x1.xViews.length cx1c_0]) x1 bx1c_0 ∧ OwMirrorResult V (.agg #[.int .i64 r.xCode, .int .i64 r.xMirror.xQ, .slice pg0_0 r.xMirror.xViews.length cg0_0]) r bg0_0) ⟨X0, X1, Yw0, Z0, Z1, Yg0, B, w0, x0c, x1c, g0⟩ ?_
    clear X0 X1 Yw0 Z0 Z1 Yg0 B w0 x0c x1c g0
    rintro V36 ⟨X0, X1, Yw0, Z0, Z1, Yg0, B, w0, x0c, x1c, g0⟩
    refine (markMirror_ow _ x1 bx1c_0 _ _ (by exact x1c) (by omega) (by omega)).mono ?_
    rintro e w37 ⟨rfl, mm, oo⟩
    replace X0 := X0.off oo nb_X0_x1c
    replace X1 := X1.off oo nb_X1_x1c
    replace Yw0 := Yw0.off oo nb_Yw0_x1c
    replace Z0 := Z0.off oo nb_Z0_x1c
    replace Z1 := Z1.off oo nb_Z1_x1c
    replace Yg0 := Yg0.off oo nb_Yg0_x1c
    replace w0 := w0.off oo dj_w0_x1c
    replace x0c := x0c.off oo dj_x0c_x1c
    replace g0 := g0.off oo dj_x1c_g0.symm
    replace B := B.trans (oo.toBelow B.size G_x1c)
    clear x1c
    have x1c := mm
    clear mm
    have X0a := X0.at.1
    have X0l := X0.lt
    have X1a := X1.at.1
    have X1l := X1.lt
    have Yw0a := Yw0.at.1
    have Yw0l := Yw0.lt
    have Z0a := Z0.at.1
    have Z0l := Z0.lt
    have Z1a := Z1.at.1
    have Z1l := Z1.lt
    have Yg0a := Yg0.at.1
    have Yg0l := Yg0.lt
    go_wp2_with fail
    clear X0a X0l X1a X1l Yw0a Yw0l Z0a Z0l Z1a Z1l Yg0a Yg0l
    refine Calls.at (F := fun V => Blk V (w.heap.size) 24 #[.int .i64 x0.xQ, .slice p0_0 x0.xViews.length c0_0] ∧ Blk V (w.heap.size + 1) 24 #[.int .i64 x1.xQ, .slice p1_0 x1.xViews.length c1_0] ∧ Blk V (nbw0) 28 #[.int .i64 r.xCode, .int .i64 r.xMirror.xQ, .slice pw0_0 r.xMirror.xViews.length cw0_0] ∧ Blk V (w19.heap.size) 26 #[.int .i64 x0.xQ, .slice px0c_0 x0.xViews.length cx0c_0] ∧ Blk V (w21.heap.size) 26 #[.int .i64 x1.xQ, .slice px1c_0 x1.xViews.length cx1c_0] ∧ Blk V (w23.heap.size) 28 #[.int .i64 r.xCode, .int .i64 r.xMirror.xQ, .slice pg0_0 r.xMirror.xViews.length cg0_0] ∧ Below w.heap.size w V ∧ OwMirrorResult V (.agg #[.int .i64 r.xCode, .int .i64 r.xMirror.xQ, .slice pw0_0 r.xMirror.xViews.length cw0_0]) r bw0_0 ∧ OwMirror V (.agg #[.int .i64 x0.xQ, .slice px0c_0 x0.xViews.length cx0c_0]) (mkMirror 1 x0) bx0c_0 ∧ OwMirror V (.agg #[.int .i64 x1.xQ, .slice px1c_0 x1.xViews.length cx1c_0]) (mkMirror (1 + (cntMirror x0 : Nat)) x1) bx1c_0 ∧ OwMirrorResult V (.agg #[.int .i64 r.xCode, .int .i64 r.xMirror.xQ, .slice pg0_0 r.xMirror.xViews.length cg0_0]) r bg0_0) ⟨X0, X1, Yw0, Z0, Z1, Yg0, B, w0, x0c, x1c, g0⟩ ?_
    clear X0 X1 Yw0 Z0 Z1 Yg0 B w0 x0c x1c g0
    rintro V38 ⟨X0, X1, Yw0, Z0, Z1, Yg0, B, w0, x0c, x1c, g0⟩
    refine (eqMirrorResult_rd _ _ r _ (by exact g0.rd) (by exact w0.rd)).mono ?_
    rintro e w39 ⟨rfl, hb39⟩
    replace X0 := X0.keep hb39
    replace X1 := X1.keep hb39
    replace Yw0 := Yw0.keep hb39
    replace Z0 := Z0.keep hb39
    replace Z1 := Z1.keep hb39
    replace Yg0 := Yg0.keep hb39
    replace w0 := w0.keep hb39
    replace x0c := x0c.keep hb39
    replace x1c := x1c.keep hb39
    replace g0 := g0.keep hb39
    replace B := B.trans (hb39.mono B.size)
    have X0a := X0.at.1
    have X0l := X0.lt
    have X1a := X1.at.1
    have X1l := X1.lt
    have Yw0a := Yw0.at.1
    have Yw0l := Yw0.lt
    have Z0a := Z0.at.1
    have Z0l := Z0.lt
    have Z1a := Z1.at.1
    have Z1l := Z1.lt
    have Yg0a := Yg0.at.1
    have Yg0l := Yg0.lt
    go_wp2_with fail
    clear X0a X0l X1a X1l Yw0a Yw0l Z0a Z0l Z1a Z1l Yg0a Yg0l
    refine Calls.at (F := fun V => Blk V (w.heap.size) 24 #[.int .i64 x0.xQ, .slice p0_0 x0.xViews.length c0_0] ∧ Blk V (w.heap.size + 1) 24 #[.int .i64 x1.xQ, .slice p1_0 x1.xViews.length c1_0] ∧ Blk V (nbw0) 28 #[.int .i64 r.xCode, .int .i64 r.xMirror.xQ, .slice pw0_0 r.xMirror.xViews.length cw0_0] ∧ Blk V (w19.heap.size) 26 #[.int .i64 x0.xQ, .slice px0c_0 x0.xViews.length cx0c_0] ∧ Blk V (w21.heap.size) 26 #[.int .i64 x1.xQ, .slice px1c_0 x1.xViews.length cx1c_0] ∧ Blk V (w23.heap.size) 28 #[.int .i64 r.xCode, .int .i64 r.xMirror.xQ, .slice pg0_0 r.xMirror.xViews.length cg0_0] ∧ Below w.heap.size w V ∧ OwMirrorResult V (.agg #[.int .i64 r.xCode, .int .i64 r.xMirror.xQ, .slice pw0_0 r.xMirror.xViews.length cw0_0]) r bw0_0 ∧ OwMirror V (.agg #[.int .i64 x0.xQ, .slice px0c_0 x0.xViews.length cx0c_0]) (mkMirror 1 x0) bx0c_0 ∧ OwMirror V (.agg #[.int .i64 x1.xQ, .slice px1c_0 x1.xViews.length cx1c_0]) (mkMirror (1 + (cntMirror x0 : Nat)) x1) bx1c_0 ∧ OwMirrorResult V (.agg #[.int .i64 r.xCode, .int .i64 r.xMirror.xQ, .slice pg0_0 r.xMirror.xViews.length cg0_0]) r bg0_0) ⟨X0, X1, Yw0, Z0, Z1, Yg0, B, w0, x0c, x1c, g0⟩ ?_
    clear X0 X1 Yw0 Z0 Z1 Yg0 B w0 x0c x1c g0
    rintro V40 ⟨X0, X1, Yw0, Z0, Z1, Yg0, B, w0, x0c, x1c, g0⟩
    refine (markMirrorResult_ow _ r bg0_0 _ _ (by exact g0) (by omega) (by omega)).mono ?_
    rintro e w41 ⟨rfl, mm, oo⟩
    replace X0 := X0.off oo nb_X0_g0
    replace X1 := X1.off oo nb_X1_g0
    replace Yw0 := Yw0.off oo nb_Yw0_g0
    replace Z0 := Z0.off oo nb_Z0_g0
    replace Z1 := Z1.off oo nb_Z1_g0
    replace Yg0 := Yg0.off oo nb_Yg0_g0
    replace w0 := w0.off oo dj_w0_g0
    replace x0c := x0c.off oo dj_x0c_g0
    replace x1c := x1c.off oo dj_x1c_g0
    replace B := B.trans (oo.toBelow B.size G_g0)
    clear g0
    have g0 := mm
    clear mm
    have X0a := X0.at.1
    have X0l := X0.lt
    have X1a := X1.at.1
    have X1l := X1.lt
    have Yw0a := Yw0.at.1
    have Yw0l := Yw0.lt
    have Z0a := Z0.at.1
    have Z0l := Z0.lt
    have Z1a := Z1.at.1
    have Z1l := Z1.lt
    have Yg0a := Yg0.at.1
    have Yg0l := Yg0.lt
    go_wp2_with fail
    clear X0a X0l X1a X1l Yw0a Yw0l Z0a Z0l Z1a Z1l Yg0a Yg0l
    refine Calls.at (F := fun V => Blk V (w.heap.size) 24 #[.int .i64 x0.xQ, .slice p0_0 x0.xViews.length c0_0] ∧ Blk V (w.heap.size + 1) 24 #[.int .i64 x1.xQ, .slice p1_0 x1.xViews.length c1_0] ∧ Blk V (nbw0) 28 #[.int .i64 r.xCode, .int .i64 r.xMirror.xQ, .slice pw0_0 r.xMirror.xViews.length cw0_0] ∧ Blk V (w19.heap.size) 26 #[.int .i64 x0.xQ, .slice px0c_0 x0.xViews.length cx0c_0] ∧ Blk V (w21.heap.size) 26 #[.int .i64 x1.xQ, .slice px1c_0 x1.xViews.length cx1c_0] ∧ Blk V (w23.heap.size) 28 #[.int .i64 r.xCode, .int .i64 r.xMirror.xQ, .slice pg0_0 r.xMirror.xViews.length cg0_0] ∧ Below w.heap.size w V ∧ OwMirrorResult V (.agg #[.int .i64 r.xCode, .int .i64 r.xMirror.xQ, .slice pw0_0 r.xMirror.xViews.length cw0_0]) r bw0_0 ∧ OwMirror V (.agg #[.int .i64 x0.xQ, .slice px0c_0 x0.xViews.length cx0c_0]) (mkMirror 1 x0) bx0c_0 ∧ OwMirror V (.agg #[.int .i64 x1.xQ, .slice px1c_0 x1.xViews.length cx1c_0]) (mkMirror (1 + (cntMirror x0 : Nat)) x1) bx1c_0 ∧ OwMirrorResult V (.agg #[.int .i64 r.xCode, .int .i64 r.xMirror.xQ, .slice pg0_0 r.xMirror.xViews.length cg0_0]) (mkMirrorResult 1 r) bg0_0) ⟨X0, X1, Yw0, Z0, Z1, Yg0, B, w0, x0c, x1c, g0⟩ ?_
    clear X0 X1 Yw0 Z0 Z1 Yg0 B w0 x0c x1c g0
    rintro V42 ⟨X0, X1, Yw0, Z0, Z1, Yg0, B, w0, x0c, x1c, g0⟩
    refine (heldMirrorResult_rd _ r _ _ (by exact g0.rd) (by omega) (by omega)).mono ?_
    rintro e w43 ⟨rfl, hb43⟩
    replace X0 := X0.keep hb43
    replace X1 := X1.keep hb43
    replace Yw0 := Yw0.keep hb43
    replace Z0 := Z0.keep hb43
    replace Z1 := Z1.keep hb43
    replace Yg0 := Yg0.keep hb43
    replace w0 := w0.keep hb43
    replace x0c := x0c.keep hb43
    replace x1c := x1c.keep hb43
    replace g0 := g0.keep hb43
    replace B := B.trans (hb43.mono B.size)
    have X0a := X0.at.1
    have X0l := X0.lt
    have X1a := X1.at.1
    have X1l := X1.lt
    have Yw0a := Yw0.at.1
    have Yw0l := Yw0.lt
    have Z0a := Z0.at.1
    have Z0l := Z0.lt
    have Z1a := Z1.at.1
    have Z1l := Z1.lt
    have Yg0a := Yg0.at.1
    have Yg0l := Yg0.lt
    go_wp2_with fail
    clear X0a X0l X1a X1l Yw0a Yw0l Z0a Z0l Z1a Z1l Yg0a Yg0l
    go_cut [13] from 14 (fun s wr => (∃ nz ph0_0 ch0_0 bh0_0, s = .pointer (some ⟨nz, 0, none⟩) ∧ Blk wr (w.heap.size) 24 #[.int .i64 x0.xQ, .slice p0_0 x0.xViews.length c0_0] ∧ Blk wr (w.heap.size + 1) 24 #[.int .i64 x1.xQ, .slice p1_0 x1.xViews.length c1_0] ∧ Blk wr (nbw0) 28 #[.int .i64 r.xCode, .int .i64 r.xMirror.xQ, .slice pw0_0 r.xMirror.xViews.length cw0_0] ∧ Blk wr (w19.heap.size) 26 #[.int .i64 x0.xQ, .slice px0c_0 x0.xViews.length cx0c_0] ∧ Blk wr (w21.heap.size) 26 #[.int .i64 x1.xQ, .slice px1c_0 x1.xViews.length cx1c_0] ∧ Blk wr (w23.heap.size) 28 #[.int .i64 r.xCode, .int .i64 r.xMirror.xQ, .slice pg0_0 r.xMirror.xViews.length cg0_0] ∧ Below w.heap.size w wr ∧ OwMirrorResult wr (.agg #[.int .i64 r.xCode, .int .i64 r.xMirror.xQ, .slice pw0_0 r.xMirror.xViews.length cw0_0]) r bw0_0 ∧ OwMirror wr (.agg #[.int .i64 x0.xQ, .slice px0c_0 x0.xViews.length cx0c_0]) (mkMirror 1 x0) bx0c_0 ∧ OwMirror wr (.agg #[.int .i64 x1.xQ, .slice px1c_0 x1.xViews.length cx1c_0]) (mkMirror (1 + (cntMirror x0 : Nat)) x1) bx1c_0 ∧ OwMirrorResult wr (.agg #[.int .i64 r.xCode, .int .i64 r.xMirror.xQ, .slice pg0_0 r.xMirror.xViews.length cg0_0]) (mkMirrorResult 1 r) bg0_0 ∧ OwMirrorResult wr (.agg #[.int .i64 r.xCode, .int .i64 r.xMirror.xQ, .slice ph0_0 r.xMirror.xViews.length ch0_0]) r bh0_0 ∧ Blk wr (nz) 28 #[.int .i64 r.xCode, .int .i64 r.xMirror.xQ, .slice ph0_0 r.xMirror.xViews.length ch0_0] ∧ Dj bw0_0 bh0_0 ∧ Dj bx0c_0 bh0_0 ∧ Dj bx1c_0 bh0_0 ∧ Dj bg0_0 bh0_0 ∧ w.heap.size ∉ bh0_0 ∧ w.heap.size + 1 ∉ bh0_0 ∧ nbw0 ∉ bh0_0 ∧ w19.heap.size ∉ bh0_0 ∧ w21.heap.size ∉ bh0_0 ∧ w23.heap.size ∉ bh0_0 ∧ (∀ y ∈ bh0_0, w.heap.size ≤ y) ∧ nz ∉ bw0_0 ∧ nz ∉ bx0c_0 ∧ nz ∉ bx1c_0 ∧ nz ∉ bg0_0 ∧ nz ∉ bh0_0))
    case first =>
      have hS : (∀ o, w43.cell? ⟨w.heap.size, o, none⟩ = (#[.int .i64 x0.xQ, .slice p0_0 x0.xViews.length c0_0] : Array Value)[o]?) ∧ (∀ o, w43.cell? ⟨w.heap.size + 1, o, none⟩ = (#[.int .i64 x1.xQ, .slice p1_0 x1.xViews.length c1_0] : Array Value)[o]?) := ⟨X0.at.1, X1.at.1⟩
      have tk0 : Hid True := trivial
      have tk1 : Hid True := trivial
      have tk2 : Hid True := trivial
      go_region_held3 (fun V => (∀ o, V.cell? ⟨w.heap.size, o, none⟩ = (#[.int .i64 x0.xQ, .slice p0_0 x0.xViews.length c0_0] : Array Value)[o]?) ∧ (∀ o, V.cell? ⟨w.heap.size + 1, o, none⟩ = (#[.int .i64 x1.xQ, .slice p1_0 x1.xViews.length c1_0] : Array Value)[o]?)) (first | (have _k := tkK; first | exact hS | exact HSO.out _ (((((Off.refl _ _).setCell _ _ (by simp)).setCell _ _ (by simp)).setCell _ _ (by simp)))) | (have _u := tkU; first | exact hS | exact HSO.out _ ((Off.refl _ _).alloc _)) | exact hS | exact ⟨(X0.alloc _).at.1, (X1.alloc _).at.1⟩ | exact ⟨(X0.drew.alloc _).at.1, (X1.drew.alloc _).at.1⟩) (first | (go_at_call 11; have _t := tk0; clear _t tk0; (first | (have _n := NB; clear _n; refine Calls.at (F := fun V => Blk V (w.heap.size) 24 #[.int .i64 x0.xQ, .slice p0_0 x0.xViews.length c0_0] ∧ Blk V (w.heap.size + 1) 24 #[.int .i64 x1.xQ, .slice p1_0 x1.xViews.length c1_0] ∧ Blk V (nbw0) 28 #[.int .i64 r.xCode, .int .i64 r.xMirror.xQ, .slice pw0_0 r.xMirror.xViews.length cw0_0] ∧ Blk V (w19.heap.size) 26 #[.int .i64 x0.xQ, .slice px0c_0 x0.xViews.length cx0c_0] ∧ Blk V (w21.heap.size) 26 #[.int .i64 x1.xQ, .slice px1c_0 x1.xViews.length cx1c_0] ∧ Blk V (w23.heap.size) 28 #[.int .i64 r.xCode, .int .i64 r.xMirror.xQ, .slice pg0_0 r.xMirror.xViews.length cg0_0] ∧ Below w.heap.size w V ∧ OwMirrorResult V (.agg #[.int .i64 r.xCode, .int .i64 r.xMirror.xQ, .slice pw0_0 r.xMirror.xViews.length cw0_0]) r bw0_0 ∧ OwMirror V (.agg #[.int .i64 x0.xQ, .slice px0c_0 x0.xViews.length cx0c_0]) (mkMirror 1 x0) bx0c_0 ∧ OwMirror V (.agg #[.int .i64 x1.xQ, .slice px1c_0 x1.xViews.length cx1c_0]) (mkMirror (1 + (cntMirror x0 : Nat)) x1) bx1c_0 ∧ OwMirrorResult V (.agg #[.int .i64 r.xCode, .int .i64 r.xMirror.xQ, .slice pg0_0 r.xMirror.xViews.length cg0_0]) (mkMirrorResult 1 r) bg0_0 ∧ Blk V nb 28 #[.int .i64 0, .int .i64 0, .slice none 0 0]) (by first | exact ⟨X0, X1, Yw0, Z0, Z1, Yg0, B, w0, x0c, x1c, g0, NB⟩ | exact ⟨X0.drew, X1.drew, Yw0.drew, Z0.drew, Z1.drew, Yg0.drew, B.drew, w0.drew, x0c.drew, x1c.drew, g0.drew, NB.drew⟩) ?_; clear hS NB X0 X1 Yw0 Z0 Z1 Yg0 B w0 x0c x1c g0; rintro V44 ⟨X0, X1, Yw0, Z0, Z1, Yg0, B, w0, x0c, x1c, g0, NB⟩) | (refine Calls.at (F := fun V => Blk V (w.heap.size) 24 #[.int .i64 x0.xQ, .slice p0_0 x0.xViews.length c0_0] ∧ Blk V (w.heap.size + 1) 24 #[.int .i64 x1.xQ, .slice p1_0 x1.xViews.length c1_0] ∧ Blk V (nbw0) 28 #[.int .i64 r.xCode, .int .i64 r.xMirror.xQ, .slice pw0_0 r.xMirror.xViews.length cw0_0] ∧ Blk V (w19.heap.size) 26 #[.int .i64 x0.xQ, .slice px0c_0 x0.xViews.length cx0c_0] ∧ Blk V (w21.heap.size) 26 #[.int .i64 x1.xQ, .slice px1c_0 x1.xViews.length cx1c_0] ∧ Blk V (w23.heap.size) 28 #[.int .i64 r.xCode, .int .i64 r.xMirror.xQ, .slice pg0_0 r.xMirror.xViews.length cg0_0] ∧ Below w.heap.size w V ∧ OwMirrorResult V (.agg #[.int .i64 r.xCode, .int .i64 r.xMirror.xQ, .slice pw0_0 r.xMirror.xViews.length cw0_0]) r bw0_0 ∧ OwMirror V (.agg #[.int .i64 x0.xQ, .slice px0c_0 x0.xViews.length cx0c_0]) (mkMirror 1 x0) bx0c_0 ∧ OwMirror V (.agg #[.int .i64 x1.xQ, .slice px1c_0 x1.xViews.length cx1c_0]) (mkMirror (1 + (cntMirror x0 : Nat)) x1) bx1c_0 ∧ OwMirrorResult V (.agg #[.int .i64 r.xCode, .int .i64 r.xMirror.xQ, .slice pg0_0 r.xMirror.xViews.length cg0_0]) (mkMirrorResult 1 r) bg0_0) (by first | exact ⟨X0, X1, Yw0, Z0, Z1, Yg0, B, w0, x0c, x1c, g0⟩ | exact ⟨X0.drew, X1.drew, Yw0.drew, Z0.drew, Z1.drew, Yg0.drew, B.drew, w0.drew, x0c.drew, x1c.drew, g0.drew⟩) ?_; clear hS X0 X1 Yw0 Z0 Z1 Yg0 B w0 x0c x1c g0; rintro V44 ⟨X0, X1, Yw0, Z0, Z1, Yg0, B, w0, x0c, x1c, g0⟩) | (obtain ⟨nb, hnb⟩ : ∃ n : Nat, n = w43.heap.size := ⟨_, rfl⟩; have HNB : Hid (nb = w43.heap.size) := hnb; have nbk_w0 : nb ∉ bw0_0 := (fun hm => by rw [hnb] at hm; exact Nat.lt_irrefl _ (w0.lt _ hm)); have nbk_x0c : nb ∉ bx0c_0 := (fun hm => by rw [hnb] at hm; exact Nat.lt_irrefl _ (x0c.lt _ hm)); have nbk_x1c : nb ∉ bx1c_0 := (fun hm => by rw [hnb] at hm; exact Nat.lt_irrefl _ (x1c.lt _ hm)); have nbk_g0 : nb ∉ bg0_0 := (fun hm => by rw [hnb] at hm; exact Nat.lt_irrefl _ (g0.lt _ hm)); have nbx_X0 : w.heap.size ≠ nb := (fun h => by rw [hnb] at h; have := X0.lt; omega); have nbx_X1 : w.heap.size + 1 ≠ nb := (fun h => by rw [hnb] at h; have := X1.lt; omega); have nbx_Yw0 : nbw0 ≠ nb := (fun h => by rw [hnb] at h; have := Yw0.lt; omega); have nbx_Z0 : w19.heap.size ≠ nb := (fun h => by rw [hnb] at h; have := Z0.lt; omega); have nbx_Z1 : w21.heap.size ≠ nb := (fun h => by rw [hnb] at h; have := Z1.lt; omega); have nbx_Yg0 : w23.heap.size ≠ nb := (fun h => by rw [hnb] at h; have := Yg0.lt; omega); have nbw : w.heap.size ≤ nb := (by rw [hnb]; exact B.size); refine Calls.at (F := fun V => Blk V (w.heap.size) 24 #[.int .i64 x0.xQ, .slice p0_0 x0.xViews.length c0_0] ∧ Blk V (w.heap.size + 1) 24 #[.int .i64 x1.xQ, .slice p1_0 x1.xViews.length c1_0] ∧ Blk V (nbw0) 28 #[.int .i64 r.xCode, .int .i64 r.xMirror.xQ, .slice pw0_0 r.xMirror.xViews.length cw0_0] ∧ Blk V (w19.heap.size) 26 #[.int .i64 x0.xQ, .slice px0c_0 x0.xViews.length cx0c_0] ∧ Blk V (w21.heap.size) 26 #[.int .i64 x1.xQ, .slice px1c_0 x1.xViews.length cx1c_0] ∧ Blk V (w23.heap.size) 28 #[.int .i64 r.xCode, .int .i64 r.xMirror.xQ, .slice pg0_0 r.xMirror.xViews.length cg0_0] ∧ Below w.heap.size w V ∧ OwMirrorResult V (.agg #[.int .i64 r.xCode, .int .i64 r.xMirror.xQ, .slice pw0_0 r.xMirror.xViews.length cw0_0]) r bw0_0 ∧ OwMirror V (.agg #[.int .i64 x0.xQ, .slice px0c_0 x0.xViews.length cx0c_0]) (mkMirror 1 x0) bx0c_0 ∧ OwMirror V (.agg #[.int .i64 x1.xQ, .slice px1c_0 x1.xViews.length cx1c_0]) (mkMirror (1 + (cntMirror x0 : Nat)) x1) bx1c_0 ∧ OwMirrorResult V (.agg #[.int .i64 r.xCode, .int .i64 r.xMirror.xQ, .slice pg0_0 r.xMirror.xViews.length cg0_0]) (mkMirrorResult 1 r) bg0_0 ∧ Blk V nb 28 #[.int .i64 0, .int .i64 0, .slice none 0 0]) (by first | exact ⟨X0.alloc _, X1.alloc _, Yw0.alloc _, Z0.alloc _, Z1.alloc _, Yg0.alloc _, B.alloc B.size _, w0.alloc _, x0c.alloc _, x1c.alloc _, g0.alloc _, by rw [hnb]; exact Blk.new _ _ _⟩ | exact ⟨X0.drew.alloc _, X1.drew.alloc _, Yw0.drew.alloc _, Z0.drew.alloc _, Z1.drew.alloc _, Yg0.drew.alloc _, B.drew.alloc B.drew.size _, w0.drew.alloc _, x0c.drew.alloc _, x1c.drew.alloc _, g0.drew.alloc _, by rw [hnb]; exact Blk.new _ _ _⟩) ?_; clear hS hnb X0 X1 Yw0 Z0 Z1 Yg0 B w0 x0c x1c g0; rintro V44 ⟨X0, X1, Yw0, Z0, Z1, Yg0, B, w0, x0c, x1c, g0, NB⟩)); refine (toMirror_ow _ x0 _ (by exact r0.below B) (by omega)).mono ?_; rintro e w45 ⟨u, bh0a0_0, rfl, h0a0, fh0a0_0, hb45⟩; (try replace NB := NB.keep hb45); obtain ⟨ph0a0_0, ch0a0_0, rfl⟩ := h0a0.shp; have F_h0a0 : ∀ y ∈ bh0a0_0, V44.heap.size ≤ y := fh0a0_0; have dj_w0_h0a0 : Dj bw0_0 bh0a0_0 := fun y hy hm => Nat.not_lt.2 (F_h0a0 y hm) (w0.lt y hy); have dj_x0c_h0a0 : Dj bx0c_0 bh0a0_0 := fun y hy hm => Nat.not_lt.2 (F_h0a0 y hm) (x0c.lt y hy); have dj_x1c_h0a0 : Dj bx1c_0 bh0a0_0 := fun y hy hm => Nat.not_lt.2 (F_h0a0 y hm) (x1c.lt y hy); have dj_g0_h0a0 : Dj bg0_0 bh0a0_0 := fun y hy hm => Nat.not_lt.2 (F_h0a0 y hm) (g0.lt y hy); have nb_X0_h0a0 : w.heap.size ∉ bh0a0_0 := fun hm => Nat.not_lt.2 (F_h0a0 _ hm) X0.lt; have nb_X1_h0a0 : w.heap.size + 1 ∉ bh0a0_0 := fun hm => Nat.not_lt.2 (F_h0a0 _ hm) X1.lt; have nb_Yw0_h0a0 : nbw0 ∉ bh0a0_0 := fun hm => Nat.not_lt.2 (F_h0a0 _ hm) Yw0.lt; have nb_Z0_h0a0 : w19.heap.size ∉ bh0a0_0 := fun hm => Nat.not_lt.2 (F_h0a0 _ hm) Z0.lt; have nb_Z1_h0a0 : w21.heap.size ∉ bh0a0_0 := fun hm => Nat.not_lt.2 (F_h0a0 _ hm) Z1.lt; have nb_Yg0_h0a0 : w23.heap.size ∉ bh0a0_0 := fun hm => Nat.not_lt.2 (F_h0a0 _ hm) Yg0.lt; have G_h0a0 : ∀ y ∈ bh0a0_0, w.heap.size ≤ y := fun y hy => Nat.le_trans B.size (F_h0a0 y hy); clear F_h0a0; replace X0 := X0.keep hb45; replace X1 := X1.keep hb45; replace Yw0 := Yw0.keep hb45; replace Z0 := Z0.keep hb45; replace Z1 := Z1.keep hb45; replace Yg0 := Yg0.keep hb45; replace w0 := w0.keep hb45; replace x0c := x0c.keep hb45; replace x1c := x1c.keep hb45; replace g0 := g0.keep hb45; replace B := B.trans (hb45.mono B.size); have hS := (show (∀ o, w45.cell? ⟨w.heap.size, o, none⟩ = (#[.int .i64 x0.xQ, .slice p0_0 x0.xViews.length c0_0] : Array Value)[o]?) ∧ (∀ o, w45.cell? ⟨w.heap.size + 1, o, none⟩ = (#[.int .i64 x1.xQ, .slice p1_0 x1.xViews.length c1_0] : Array Value)[o]?) from ⟨X0.at.1, X1.at.1⟩)) | (go_at_call 11; have _t := tk1; clear _t tk1; (first | (have _n := NB; clear _n; refine Calls.at (F := fun V => Blk V (w.heap.size) 24 #[.int .i64 x0.xQ, .slice p0_0 x0.xViews.length c0_0] ∧ Blk V (w.heap.size + 1) 24 #[.int .i64 x1.xQ, .slice p1_0 x1.xViews.length c1_0] ∧ Blk V (nbw0) 28 #[.int .i64 r.xCode, .int .i64 r.xMirror.xQ, .slice pw0_0 r.xMirror.xViews.length cw0_0] ∧ Blk V (w19.heap.size) 26 #[.int .i64 x0.xQ, .slice px0c_0 x0.xViews.length cx0c_0] ∧ Blk V (w21.heap.size) 26 #[.int .i64 x1.xQ, .slice px1c_0 x1.xViews.length cx1c_0] ∧ Blk V (w23.heap.size) 28 #[.int .i64 r.xCode, .int .i64 r.xMirror.xQ, .slice pg0_0 r.xMirror.xViews.length cg0_0] ∧ Below w.heap.size w V ∧ OwMirrorResult V (.agg #[.int .i64 r.xCode, .int .i64 r.xMirror.xQ, .slice pw0_0 r.xMirror.xViews.length cw0_0]) r bw0_0 ∧ OwMirror V (.agg #[.int .i64 x0.xQ, .slice px0c_0 x0.xViews.length cx0c_0]) (mkMirror 1 x0) bx0c_0 ∧ OwMirror V (.agg #[.int .i64 x1.xQ, .slice px1c_0 x1.xViews.length cx1c_0]) (mkMirror (1 + (cntMirror x0 : Nat)) x1) bx1c_0 ∧ OwMirrorResult V (.agg #[.int .i64 r.xCode, .int .i64 r.xMirror.xQ, .slice pg0_0 r.xMirror.xViews.length cg0_0]) (mkMirrorResult 1 r) bg0_0 ∧ OwMirror V (.agg #[.int .i64 x0.xQ, .slice ph0a0_0 x0.xViews.length ch0a0_0]) x0 bh0a0_0 ∧ Blk V nb 28 #[.int .i64 0, .int .i64 0, .slice none 0 0]) (by first | exact ⟨X0, X1, Yw0, Z0, Z1, Yg0, B, w0, x0c, x1c, g0, h0a0, NB⟩ | exact ⟨X0.drew, X1.drew, Yw0.drew, Z0.drew, Z1.drew, Yg0.drew, B.drew, w0.drew, x0c.drew, x1c.drew, g0.drew, h0a0.drew, NB.drew⟩) ?_; clear hS NB X0 X1 Yw0 Z0 Z1 Yg0 B w0 x0c x1c g0 h0a0; rintro V46 ⟨X0, X1, Yw0, Z0, Z1, Yg0, B, w0, x0c, x1c, g0, h0a0, NB⟩) | (refine Calls.at (F := fun V => Blk V (w.heap.size) 24 #[.int .i64 x0.xQ, .slice p0_0 x0.xViews.length c0_0] ∧ Blk V (w.heap.size + 1) 24 #[.int .i64 x1.xQ, .slice p1_0 x1.xViews.length c1_0] ∧ Blk V (nbw0) 28 #[.int .i64 r.xCode, .int .i64 r.xMirror.xQ, .slice pw0_0 r.xMirror.xViews.length cw0_0] ∧ Blk V (w19.heap.size) 26 #[.int .i64 x0.xQ, .slice px0c_0 x0.xViews.length cx0c_0] ∧ Blk V (w21.heap.size) 26 #[.int .i64 x1.xQ, .slice px1c_0 x1.xViews.length cx1c_0] ∧ Blk V (w23.heap.size) 28 #[.int .i64 r.xCode, .int .i64 r.xMirror.xQ, .slice pg0_0 r.xMirror.xViews.length cg0_0] ∧ Below w.heap.size w V ∧ OwMirrorResult V (.agg #[.int .i64 r.xCode, .int .i64 r.xMirror.xQ, .slice pw0_0 r.xMirror.xViews.length cw0_0]) r bw0_0 ∧ OwMirror V (.agg #[.int .i64 x0.xQ, .slice px0c_0 x0.xViews.length cx0c_0]) (mkMirror 1 x0) bx0c_0 ∧ OwMirror V (.agg #[.int .i64 x1.xQ, .slice px1c_0 x1.xViews.length cx1c_0]) (mkMirror (1 + (cntMirror x0 : Nat)) x1) bx1c_0 ∧ OwMirrorResult V (.agg #[.int .i64 r.xCode, .int .i64 r.xMirror.xQ, .slice pg0_0 r.xMirror.xViews.length cg0_0]) (mkMirrorResult 1 r) bg0_0 ∧ OwMirror V (.agg #[.int .i64 x0.xQ, .slice ph0a0_0 x0.xViews.length ch0a0_0]) x0 bh0a0_0) (by first | exact ⟨X0, X1, Yw0, Z0, Z1, Yg0, B, w0, x0c, x1c, g0, h0a0⟩ | exact ⟨X0.drew, X1.drew, Yw0.drew, Z0.drew, Z1.drew, Yg0.drew, B.drew, w0.drew, x0c.drew, x1c.drew, g0.drew, h0a0.drew⟩) ?_; clear hS X0 X1 Yw0 Z0 Z1 Yg0 B w0 x0c x1c g0 h0a0; rintro V46 ⟨X0, X1, Yw0, Z0, Z1, Yg0, B, w0, x0c, x1c, g0, h0a0⟩) | (obtain ⟨nb, hnb⟩ : ∃ n : Nat, n = w45.heap.size := ⟨_, rfl⟩; have HNB : Hid (nb = w45.heap.size) := hnb; have nbk_w0 : nb ∉ bw0_0 := (fun hm => by rw [hnb] at hm; exact Nat.lt_irrefl _ (w0.lt _ hm)); have nbk_x0c : nb ∉ bx0c_0 := (fun hm => by rw [hnb] at hm; exact Nat.lt_irrefl _ (x0c.lt _ hm)); have nbk_x1c : nb ∉ bx1c_0 := (fun hm => by rw [hnb] at hm; exact Nat.lt_irrefl _ (x1c.lt _ hm)); have nbk_g0 : nb ∉ bg0_0 := (fun hm => by rw [hnb] at hm; exact Nat.lt_irrefl _ (g0.lt _ hm)); have nbk_h0a0 : nb ∉ bh0a0_0 := (fun hm => by rw [hnb] at hm; exact Nat.lt_irrefl _ (h0a0.lt _ hm)); have nbx_X0 : w.heap.size ≠ nb := (fun h => by rw [hnb] at h; have := X0.lt; omega); have nbx_X1 : w.heap.size + 1 ≠ nb := (fun h => by rw [hnb] at h; have := X1.lt; omega); have nbx_Yw0 : nbw0 ≠ nb := (fun h => by rw [hnb] at h; have := Yw0.lt; omega); have nbx_Z0 : w19.heap.size ≠ nb := (fun h => by rw [hnb] at h; have := Z0.lt; omega); have nbx_Z1 : w21.heap.size ≠ nb := (fun h => by rw [hnb] at h; have := Z1.lt; omega); have nbx_Yg0 : w23.heap.size ≠ nb := (fun h => by rw [hnb] at h; have := Yg0.lt; omega); have nbw : w.heap.size ≤ nb := (by rw [hnb]; exact B.size); refine Calls.at (F := fun V => Blk V (w.heap.size) 24 #[.int .i64 x0.xQ, .slice p0_0 x0.xViews.length c0_0] ∧ Blk V (w.heap.size + 1) 24 #[.int .i64 x1.xQ, .slice p1_0 x1.xViews.length c1_0] ∧ Blk V (nbw0) 28 #[.int .i64 r.xCode, .int .i64 r.xMirror.xQ, .slice pw0_0 r.xMirror.xViews.length cw0_0] ∧ Blk V (w19.heap.size) 26 #[.int .i64 x0.xQ, .slice px0c_0 x0.xViews.length cx0c_0] ∧ Blk V (w21.heap.size) 26 #[.int .i64 x1.xQ, .slice px1c_0 x1.xViews.length cx1c_0] ∧ Blk V (w23.heap.size) 28 #[.int .i64 r.xCode, .int .i64 r.xMirror.xQ, .slice pg0_0 r.xMirror.xViews.length cg0_0] ∧ Below w.heap.size w V ∧ OwMirrorResult V (.agg #[.int .i64 r.xCode, .int .i64 r.xMirror.xQ, .slice pw0_0 r.xMirror.xViews.length cw0_0]) r bw0_0 ∧ OwMirror V (.agg #[.int .i64 x0.xQ, .slice px0c_0 x0.xViews.length cx0c_0]) (mkMirror 1 x0) bx0c_0 ∧ OwMirror V (.agg #[.int .i64 x1.xQ, .slice px1c_0 x1.xViews.length cx1c_0]) (mkMirror (1 + (cntMirror x0 : Nat)) x1) bx1c_0 ∧ OwMirrorResult V (.agg #[.int .i64 r.xCode, .int .i64 r.xMirror.xQ, .slice pg0_0 r.xMirror.xViews.length cg0_0]) (mkMirrorResult 1 r) bg0_0 ∧ OwMirror V (.agg #[.int .i64 x0.xQ, .slice ph0a0_0 x0.xViews.length ch0a0_0]) x0 bh0a0_0 ∧ Blk V nb 28 #[.int .i64 0, .int .i64 0, .slice none 0 0]) (by first | exact ⟨X0.alloc _, X1.alloc _, Yw0.alloc _, Z0.alloc _, Z1.alloc _, Yg0.alloc _, B.alloc B.size _, w0.alloc _, x0c.alloc _, x1c.alloc _, g0.alloc _, h0a0.alloc _, by rw [hnb]; exact Blk.new _ _ _⟩ | exact ⟨X0.drew.alloc _, X1.drew.alloc _, Yw0.drew.alloc _, Z0.drew.alloc _, Z1.drew.alloc _, Yg0.drew.alloc _, B.drew.alloc B.drew.size _, w0.drew.alloc _, x0c.drew.alloc _, x1c.drew.alloc _, g0.drew.alloc _, h0a0.drew.alloc _, by rw [hnb]; exact Blk.new _ _ _⟩) ?_; clear hS hnb X0 X1 Yw0 Z0 Z1 Yg0 B w0 x0c x1c g0 h0a0; rintro V46 ⟨X0, X1, Yw0, Z0, Z1, Yg0, B, w0, x0c, x1c, g0, h0a0, NB⟩)); refine (toMirror_ow _ x1 _ (by exact r1.below B) (by omega)).mono ?_; rintro e w47 ⟨u, bh0a1_0, rfl, h0a1, fh0a1_0, hb47⟩; (try replace NB := NB.keep hb47); obtain ⟨ph0a1_0, ch0a1_0, rfl⟩ := h0a1.shp; have F_h0a1 : ∀ y ∈ bh0a1_0, V46.heap.size ≤ y := fh0a1_0; have dj_w0_h0a1 : Dj bw0_0 bh0a1_0 := fun y hy hm => Nat.not_lt.2 (F_h0a1 y hm) (w0.lt y hy); have dj_x0c_h0a1 : Dj bx0c_0 bh0a1_0 := fun y hy hm => Nat.not_lt.2 (F_h0a1 y hm) (x0c.lt y hy); have dj_x1c_h0a1 : Dj bx1c_0 bh0a1_0 := fun y hy hm => Nat.not_lt.2 (F_h0a1 y hm) (x1c.lt y hy); have dj_g0_h0a1 : Dj bg0_0 bh0a1_0 := fun y hy hm => Nat.not_lt.2 (F_h0a1 y hm) (g0.lt y hy); have dj_h0a0_h0a1 : Dj bh0a0_0 bh0a1_0 := fun y hy hm => Nat.not_lt.2 (F_h0a1 y hm) (h0a0.lt y hy); have nb_X0_h0a1 : w.heap.size ∉ bh0a1_0 := fun hm => Nat.not_lt.2 (F_h0a1 _ hm) X0.lt; have nb_X1_h0a1 : w.heap.size + 1 ∉ bh0a1_0 := fun hm => Nat.not_lt.2 (F_h0a1 _ hm) X1.lt; have nb_Yw0_h0a1 : nbw0 ∉ bh0a1_0 := fun hm => Nat.not_lt.2 (F_h0a1 _ hm) Yw0.lt; have nb_Z0_h0a1 : w19.heap.size ∉ bh0a1_0 := fun hm => Nat.not_lt.2 (F_h0a1 _ hm) Z0.lt; have nb_Z1_h0a1 : w21.heap.size ∉ bh0a1_0 := fun hm => Nat.not_lt.2 (F_h0a1 _ hm) Z1.lt; have nb_Yg0_h0a1 : w23.heap.size ∉ bh0a1_0 := fun hm => Nat.not_lt.2 (F_h0a1 _ hm) Yg0.lt; have G_h0a1 : ∀ y ∈ bh0a1_0, w.heap.size ≤ y := fun y hy => Nat.le_trans B.size (F_h0a1 y hy); clear F_h0a1; replace X0 := X0.keep hb47; replace X1 := X1.keep hb47; replace Yw0 := Yw0.keep hb47; replace Z0 := Z0.keep hb47; replace Z1 := Z1.keep hb47; replace Yg0 := Yg0.keep hb47; replace w0 := w0.keep hb47; replace x0c := x0c.keep hb47; replace x1c := x1c.keep hb47; replace g0 := g0.keep hb47; replace h0a0 := h0a0.keep hb47; replace B := B.trans (hb47.mono B.size); have hS := (show (∀ o, w47.cell? ⟨w.heap.size, o, none⟩ = (#[.int .i64 x0.xQ, .slice p0_0 x0.xViews.length c0_0] : Array Value)[o]?) ∧ (∀ o, w47.cell? ⟨w.heap.size + 1, o, none⟩ = (#[.int .i64 x1.xQ, .slice p1_0 x1.xViews.length c1_0] : Array Value)[o]?) from ⟨X0.at.1, X1.at.1⟩)) | (go_at_call 12; have _t := tk2; clear _t tk2; (first | (have _n := NB; clear _n; refine Calls.at (F := fun V => Blk V (w.heap.size) 24 #[.int .i64 x0.xQ, .slice p0_0 x0.xViews.length c0_0] ∧ Blk V (w.heap.size + 1) 24 #[.int .i64 x1.xQ, .slice p1_0 x1.xViews.length c1_0] ∧ Blk V (nbw0) 28 #[.int .i64 r.xCode, .int .i64 r.xMirror.xQ, .slice pw0_0 r.xMirror.xViews.length cw0_0] ∧ Blk V (w19.heap.size) 26 #[.int .i64 x0.xQ, .slice px0c_0 x0.xViews.length cx0c_0] ∧ Blk V (w21.heap.size) 26 #[.int .i64 x1.xQ, .slice px1c_0 x1.xViews.length cx1c_0] ∧ Blk V (w23.heap.size) 28 #[.int .i64 r.xCode, .int .i64 r.xMirror.xQ, .slice pg0_0 r.xMirror.xViews.length cg0_0] ∧ Below w.heap.size w V ∧ OwMirrorResult V (.agg #[.int .i64 r.xCode, .int .i64 r.xMirror.xQ, .slice pw0_0 r.xMirror.xViews.length cw0_0]) r bw0_0 ∧ OwMirror V (.agg #[.int .i64 x0.xQ, .slice px0c_0 x0.xViews.length cx0c_0]) (mkMirror 1 x0) bx0c_0 ∧ OwMirror V (.agg #[.int .i64 x1.xQ, .slice px1c_0 x1.xViews.length cx1c_0]) (mkMirror (1 + (cntMirror x0 : Nat)) x1) bx1c_0 ∧ OwMirrorResult V (.agg #[.int .i64 r.xCode, .int .i64 r.xMirror.xQ, .slice pg0_0 r.xMirror.xViews.length cg0_0]) (mkMirrorResult 1 r) bg0_0 ∧ OwMirror V (.agg #[.int .i64 x0.xQ, .slice ph0a0_0 x0.xViews.length ch0a0_0]) x0 bh0a0_0 ∧ OwMirror V (.agg #[.int .i64 x1.xQ, .slice ph0a1_0 x1.xViews.length ch0a1_0]) x1 bh0a1_0 ∧ Blk V nb 28 #[.int .i64 0, .int .i64 0, .slice none 0 0]) (by first | exact ⟨X0, X1, Yw0, Z0, Z1, Yg0, B, w0, x0c, x1c, g0, h0a0, h0a1, NB⟩ | exact ⟨X0.drew, X1.drew, Yw0.drew, Z0.drew, Z1.drew, Yg0.drew, B.drew, w0.drew, x0c.drew, x1c.drew, g0.drew, h0a0.drew, h0a1.drew, NB.drew⟩) ?_; clear hS NB X0 X1 Yw0 Z0 Z1 Yg0 B w0 x0c x1c g0 h0a0 h0a1; rintro V48 ⟨X0, X1, Yw0, Z0, Z1, Yg0, B, w0, x0c, x1c, g0, h0a0, h0a1, NB⟩) | (refine Calls.at (F := fun V => Blk V (w.heap.size) 24 #[.int .i64 x0.xQ, .slice p0_0 x0.xViews.length c0_0] ∧ Blk V (w.heap.size + 1) 24 #[.int .i64 x1.xQ, .slice p1_0 x1.xViews.length c1_0] ∧ Blk V (nbw0) 28 #[.int .i64 r.xCode, .int .i64 r.xMirror.xQ, .slice pw0_0 r.xMirror.xViews.length cw0_0] ∧ Blk V (w19.heap.size) 26 #[.int .i64 x0.xQ, .slice px0c_0 x0.xViews.length cx0c_0] ∧ Blk V (w21.heap.size) 26 #[.int .i64 x1.xQ, .slice px1c_0 x1.xViews.length cx1c_0] ∧ Blk V (w23.heap.size) 28 #[.int .i64 r.xCode, .int .i64 r.xMirror.xQ, .slice pg0_0 r.xMirror.xViews.length cg0_0] ∧ Below w.heap.size w V ∧ OwMirrorResult V (.agg #[.int .i64 r.xCode, .int .i64 r.xMirror.xQ, .slice pw0_0 r.xMirror.xViews.length cw0_0]) r bw0_0 ∧ OwMirror V (.agg #[.int .i64 x0.xQ, .slice px0c_0 x0.xViews.length cx0c_0]) (mkMirror 1 x0) bx0c_0 ∧ OwMirror V (.agg #[.int .i64 x1.xQ, .slice px1c_0 x1.xViews.length cx1c_0]) (mkMirror (1 + (cntMirror x0 : Nat)) x1) bx1c_0 ∧ OwMirrorResult V (.agg #[.int .i64 r.xCode, .int .i64 r.xMirror.xQ, .slice pg0_0 r.xMirror.xViews.length cg0_0]) (mkMirrorResult 1 r) bg0_0 ∧ OwMirror V (.agg #[.int .i64 x0.xQ, .slice ph0a0_0 x0.xViews.length ch0a0_0]) x0 bh0a0_0 ∧ OwMirror V (.agg #[.int .i64 x1.xQ, .slice ph0a1_0 x1.xViews.length ch0a1_0]) x1 bh0a1_0) (by first | exact ⟨X0, X1, Yw0, Z0, Z1, Yg0, B, w0, x0c, x1c, g0, h0a0, h0a1⟩ | exact ⟨X0.drew, X1.drew, Yw0.drew, Z0.drew, Z1.drew, Yg0.drew, B.drew, w0.drew, x0c.drew, x1c.drew, g0.drew, h0a0.drew, h0a1.drew⟩) ?_; clear hS X0 X1 Yw0 Z0 Z1 Yg0 B w0 x0c x1c g0 h0a0 h0a1; rintro V48 ⟨X0, X1, Yw0, Z0, Z1, Yg0, B, w0, x0c, x1c, g0, h0a0, h0a1⟩) | (obtain ⟨nb, hnb⟩ : ∃ n : Nat, n = w47.heap.size := ⟨_, rfl⟩; have HNB : Hid (nb = w47.heap.size) := hnb; have nbk_w0 : nb ∉ bw0_0 := (fun hm => by rw [hnb] at hm; exact Nat.lt_irrefl _ (w0.lt _ hm)); have nbk_x0c : nb ∉ bx0c_0 := (fun hm => by rw [hnb] at hm; exact Nat.lt_irrefl _ (x0c.lt _ hm)); have nbk_x1c : nb ∉ bx1c_0 := (fun hm => by rw [hnb] at hm; exact Nat.lt_irrefl _ (x1c.lt _ hm)); have nbk_g0 : nb ∉ bg0_0 := (fun hm => by rw [hnb] at hm; exact Nat.lt_irrefl _ (g0.lt _ hm)); have nbk_h0a0 : nb ∉ bh0a0_0 := (fun hm => by rw [hnb] at hm; exact Nat.lt_irrefl _ (h0a0.lt _ hm)); have nbk_h0a1 : nb ∉ bh0a1_0 := (fun hm => by rw [hnb] at hm; exact Nat.lt_irrefl _ (h0a1.lt _ hm)); have nbx_X0 : w.heap.size ≠ nb := (fun h => by rw [hnb] at h; have := X0.lt; omega); have nbx_X1 : w.heap.size + 1 ≠ nb := (fun h => by rw [hnb] at h; have := X1.lt; omega); have nbx_Yw0 : nbw0 ≠ nb := (fun h => by rw [hnb] at h; have := Yw0.lt; omega); have nbx_Z0 : w19.heap.size ≠ nb := (fun h => by rw [hnb] at h; have := Z0.lt; omega); have nbx_Z1 : w21.heap.size ≠ nb := (fun h => by rw [hnb] at h; have := Z1.lt; omega); have nbx_Yg0 : w23.heap.size ≠ nb := (fun h => by rw [hnb] at h; have := Yg0.lt; omega); have nbw : w.heap.size ≤ nb := (by rw [hnb]; exact B.size); refine Calls.at (F := fun V => Blk V (w.heap.size) 24 #[.int .i64 x0.xQ, .slice p0_0 x0.xViews.length c0_0] ∧ Blk V (w.heap.size + 1) 24 #[.int .i64 x1.xQ, .slice p1_0 x1.xViews.length c1_0] ∧ Blk V (nbw0) 28 #[.int .i64 r.xCode, .int .i64 r.xMirror.xQ, .slice pw0_0 r.xMirror.xViews.length cw0_0] ∧ Blk V (w19.heap.size) 26 #[.int .i64 x0.xQ, .slice px0c_0 x0.xViews.length cx0c_0] ∧ Blk V (w21.heap.size) 26 #[.int .i64 x1.xQ, .slice px1c_0 x1.xViews.length cx1c_0] ∧ Blk V (w23.heap.size) 28 #[.int .i64 r.xCode, .int .i64 r.xMirror.xQ, .slice pg0_0 r.xMirror.xViews.length cg0_0] ∧ Below w.heap.size w V ∧ OwMirrorResult V (.agg #[.int .i64 r.xCode, .int .i64 r.xMirror.xQ, .slice pw0_0 r.xMirror.xViews.length cw0_0]) r bw0_0 ∧ OwMirror V (.agg #[.int .i64 x0.xQ, .slice px0c_0 x0.xViews.length cx0c_0]) (mkMirror 1 x0) bx0c_0 ∧ OwMirror V (.agg #[.int .i64 x1.xQ, .slice px1c_0 x1.xViews.length cx1c_0]) (mkMirror (1 + (cntMirror x0 : Nat)) x1) bx1c_0 ∧ OwMirrorResult V (.agg #[.int .i64 r.xCode, .int .i64 r.xMirror.xQ, .slice pg0_0 r.xMirror.xViews.length cg0_0]) (mkMirrorResult 1 r) bg0_0 ∧ OwMirror V (.agg #[.int .i64 x0.xQ, .slice ph0a0_0 x0.xViews.length ch0a0_0]) x0 bh0a0_0 ∧ OwMirror V (.agg #[.int .i64 x1.xQ, .slice ph0a1_0 x1.xViews.length ch0a1_0]) x1 bh0a1_0 ∧ Blk V nb 28 #[.int .i64 0, .int .i64 0, .slice none 0 0]) (by first | exact ⟨X0.alloc _, X1.alloc _, Yw0.alloc _, Z0.alloc _, Z1.alloc _, Yg0.alloc _, B.alloc B.size _, w0.alloc _, x0c.alloc _, x1c.alloc _, g0.alloc _, h0a0.alloc _, h0a1.alloc _, by rw [hnb]; exact Blk.new _ _ _⟩ | exact ⟨X0.drew.alloc _, X1.drew.alloc _, Yw0.drew.alloc _, Z0.drew.alloc _, Z1.drew.alloc _, Yg0.drew.alloc _, B.drew.alloc B.drew.size _, w0.drew.alloc _, x0c.drew.alloc _, x1c.drew.alloc _, g0.drew.alloc _, h0a0.drew.alloc _, h0a1.drew.alloc _, by rw [hnb]; exact Blk.new _ _ _⟩) ?_; clear hS hnb X0 X1 Yw0 Z0 Z1 Yg0 B w0 x0c x1c g0 h0a0 h0a1; rintro V48 ⟨X0, X1, Yw0, Z0, Z1, Yg0, B, w0, x0c, x1c, g0, h0a0, h0a1, NB⟩)); refine (HI.out _ _ _ (by exact h0a0.rd) (by exact h0a1.rd)).mono ?_; rintro e w49 ⟨u, bh0_0, rfl, h0, fh0_0, hb49⟩; have FN : ∀ y ∈ bh0_0, V48.heap.size ≤ y := fh0_0; (try have nbn : nb ∉ bh0_0 := (fun hm => Nat.not_lt.2 (FN nb hm) NB.lt)); (try replace NB := NB.keep hb49); obtain ⟨ph0_0, ch0_0, rfl⟩ := h0.shp; have F_h0 : ∀ y ∈ bh0_0, V48.heap.size ≤ y := fh0_0; have dj_w0_h0 : Dj bw0_0 bh0_0 := fun y hy hm => Nat.not_lt.2 (F_h0 y hm) (w0.lt y hy); have dj_x0c_h0 : Dj bx0c_0 bh0_0 := fun y hy hm => Nat.not_lt.2 (F_h0 y hm) (x0c.lt y hy); have dj_x1c_h0 : Dj bx1c_0 bh0_0 := fun y hy hm => Nat.not_lt.2 (F_h0 y hm) (x1c.lt y hy); have dj_g0_h0 : Dj bg0_0 bh0_0 := fun y hy hm => Nat.not_lt.2 (F_h0 y hm) (g0.lt y hy); have dj_h0a0_h0 : Dj bh0a0_0 bh0_0 := fun y hy hm => Nat.not_lt.2 (F_h0 y hm) (h0a0.lt y hy); have dj_h0a1_h0 : Dj bh0a1_0 bh0_0 := fun y hy hm => Nat.not_lt.2 (F_h0 y hm) (h0a1.lt y hy); have nb_X0_h0 : w.heap.size ∉ bh0_0 := fun hm => Nat.not_lt.2 (F_h0 _ hm) X0.lt; have nb_X1_h0 : w.heap.size + 1 ∉ bh0_0 := fun hm => Nat.not_lt.2 (F_h0 _ hm) X1.lt; have nb_Yw0_h0 : nbw0 ∉ bh0_0 := fun hm => Nat.not_lt.2 (F_h0 _ hm) Yw0.lt; have nb_Z0_h0 : w19.heap.size ∉ bh0_0 := fun hm => Nat.not_lt.2 (F_h0 _ hm) Z0.lt; have nb_Z1_h0 : w21.heap.size ∉ bh0_0 := fun hm => Nat.not_lt.2 (F_h0 _ hm) Z1.lt; have nb_Yg0_h0 : w23.heap.size ∉ bh0_0 := fun hm => Nat.not_lt.2 (F_h0 _ hm) Yg0.lt; have G_h0 : ∀ y ∈ bh0_0, w.heap.size ≤ y := fun y hy => Nat.le_trans B.size (F_h0 y hy); clear F_h0; replace X0 := X0.keep hb49; replace X1 := X1.keep hb49; replace Yw0 := Yw0.keep hb49; replace Z0 := Z0.keep hb49; replace Z1 := Z1.keep hb49; replace Yg0 := Yg0.keep hb49; replace w0 := w0.keep hb49; replace x0c := x0c.keep hb49; replace x1c := x1c.keep hb49; replace g0 := g0.keep hb49; replace h0a0 := h0a0.keep hb49; replace h0a1 := h0a1.keep hb49; replace B := B.trans (hb49.mono B.size); (first | (have _n := NB; clear _n; have FIN : Hid (∀ W, Off [nb] w49 W → Blk W nb 28 #[.int .i64 r.xCode, .int .i64 r.xMirror.xQ, .slice ph0_0 r.xMirror.xViews.length ch0_0] → (∃ nz ph0_0 ch0_0 bh0_0, (Value.pointer (some ⟨nb, 0, none⟩)) = .pointer (some ⟨nz, 0, none⟩) ∧ Blk W (w.heap.size) 24 #[.int .i64 x0.xQ, .slice p0_0 x0.xViews.length c0_0] ∧ Blk W (w.heap.size + 1) 24 #[.int .i64 x1.xQ, .slice p1_0 x1.xViews.length c1_0] ∧ Blk W (nbw0) 28 #[.int .i64 r.xCode, .int .i64 r.xMirror.xQ, .slice pw0_0 r.xMirror.xViews.length cw0_0] ∧ Blk W (w19.heap.size) 26 #[.int .i64 x0.xQ, .slice px0c_0 x0.xViews.length cx0c_0] ∧ Blk W (w21.heap.size) 26 #[.int .i64 x1.xQ, .slice px1c_0 x1.xViews.length cx1c_0] ∧ Blk W (w23.heap.size) 28 #[.int .i64 r.xCode, .int .i64 r.xMirror.xQ, .slice pg0_0 r.xMirror.xViews.length cg0_0] ∧ Below w.heap.size w W ∧ OwMirrorResult W (.agg #[.int .i64 r.xCode, .int .i64 r.xMirror.xQ, .slice pw0_0 r.xMirror.xViews.length cw0_0]) r bw0_0 ∧ OwMirror W (.agg #[.int .i64 x0.xQ, .slice px0c_0 x0.xViews.length cx0c_0]) (mkMirror 1 x0) bx0c_0 ∧ OwMirror W (.agg #[.int .i64 x1.xQ, .slice px1c_0 x1.xViews.length cx1c_0]) (mkMirror (1 + (cntMirror x0 : Nat)) x1) bx1c_0 ∧ OwMirrorResult W (.agg #[.int .i64 r.xCode, .int .i64 r.xMirror.xQ, .slice pg0_0 r.xMirror.xViews.length cg0_0]) (mkMirrorResult 1 r) bg0_0 ∧ OwMirrorResult W (.agg #[.int .i64 r.xCode, .int .i64 r.xMirror.xQ, .slice ph0_0 r.xMirror.xViews.length ch0_0]) r bh0_0 ∧ Blk W (nz) 28 #[.int .i64 r.xCode, .int .i64 r.xMirror.xQ, .slice ph0_0 r.xMirror.xViews.length ch0_0] ∧ Dj bw0_0 bh0_0 ∧ Dj bx0c_0 bh0_0 ∧ Dj bx1c_0 bh0_0 ∧ Dj bg0_0 bh0_0 ∧ w.heap.size ∉ bh0_0 ∧ w.heap.size + 1 ∉ bh0_0 ∧ nbw0 ∉ bh0_0 ∧ w19.heap.size ∉ bh0_0 ∧ w21.heap.size ∉ bh0_0 ∧ w23.heap.size ∉ bh0_0 ∧ (∀ y ∈ bh0_0, w.heap.size ≤ y) ∧ nz ∉ bw0_0 ∧ nz ∉ bx0c_0 ∧ nz ∉ bx1c_0 ∧ nz ∉ bg0_0 ∧ nz ∉ bh0_0)) := fun W O N => ⟨_, _, _, bh0_0, rfl, X0.off O (by simp; exact nbx_X0), X1.off O (by simp; exact nbx_X1), Yw0.off O (by simp; exact nbx_Yw0), Z0.off O (by simp; exact nbx_Z0), Z1.off O (by simp; exact nbx_Z1), Yg0.off O (by simp; exact nbx_Yg0), B.trans (O.toBelow B.size (by intro g hg; simp at hg; omega)), w0.off O (fun g hg hm => nbk_w0 (by simp at hm; rw [← hm]; exact hg)), x0c.off O (fun g hg hm => nbk_x0c (by simp at hm; rw [← hm]; exact hg)), x1c.off O (fun g hg hm => nbk_x1c (by simp at hm; rw [← hm]; exact hg)), g0.off O (fun g hg hm => nbk_g0 (by simp at hm; rw [← hm]; exact hg)), h0.off O (fun g hg hm => nbn (by simp at hm; rw [← hm]; exact hg)), N, dj_w0_h0, dj_x0c_h0, dj_x1c_h0, dj_g0_h0, nb_X0_h0, nb_X1_h0, nb_Yw0_h0, nb_Z0_h0, nb_Z1_h0, nb_Yg0_h0, G_h0, nbk_w0, nbk_x0c, nbk_x1c, nbk_g0, nbn⟩; have HSO : Hid (∀ W, Off [nb] w49 W → (∀ o, W.cell? ⟨w.heap.size, o, none⟩ = (#[.int .i64 x0.xQ, .slice p0_0 x0.xViews.length c0_0] : Array Value)[o]?) ∧ (∀ o, W.cell? ⟨w.heap.size + 1, o, none⟩ = (#[.int .i64 x1.xQ, .slice p1_0 x1.xViews.length c1_0] : Array Value)[o]?)) := fun W O => ⟨(X0.off O (by simp; exact nbx_X0)).at.1, (X1.off O (by simp; exact nbx_X1)).at.1⟩; have hnb9 := HNB.out; subst hnb9; have NBa := NB.at.1; have NBb := NB.at.2; have tkK : Hid True := trivial) | (have FIN : Hid (∀ W, Off [] w49 W → Blk W w49.heap.size 28 #[.int .i64 r.xCode, .int .i64 r.xMirror.xQ, .slice ph0_0 r.xMirror.xViews.length ch0_0] → (∃ nz ph0_0 ch0_0 bh0_0, (Value.pointer (some ⟨w49.heap.size, 0, none⟩)) = .pointer (some ⟨nz, 0, none⟩) ∧ Blk W (w.heap.size) 24 #[.int .i64 x0.xQ, .slice p0_0 x0.xViews.length c0_0] ∧ Blk W (w.heap.size + 1) 24 #[.int .i64 x1.xQ, .slice p1_0 x1.xViews.length c1_0] ∧ Blk W (nbw0) 28 #[.int .i64 r.xCode, .int .i64 r.xMirror.xQ, .slice pw0_0 r.xMirror.xViews.length cw0_0] ∧ Blk W (w19.heap.size) 26 #[.int .i64 x0.xQ, .slice px0c_0 x0.xViews.length cx0c_0] ∧ Blk W (w21.heap.size) 26 #[.int .i64 x1.xQ, .slice px1c_0 x1.xViews.length cx1c_0] ∧ Blk W (w23.heap.size) 28 #[.int .i64 r.xCode, .int .i64 r.xMirror.xQ, .slice pg0_0 r.xMirror.xViews.length cg0_0] ∧ Below w.heap.size w W ∧ OwMirrorResult W (.agg #[.int .i64 r.xCode, .int .i64 r.xMirror.xQ, .slice pw0_0 r.xMirror.xViews.length cw0_0]) r bw0_0 ∧ OwMirror W (.agg #[.int .i64 x0.xQ, .slice px0c_0 x0.xViews.length cx0c_0]) (mkMirror 1 x0) bx0c_0 ∧ OwMirror W (.agg #[.int .i64 x1.xQ, .slice px1c_0 x1.xViews.length cx1c_0]) (mkMirror (1 + (cntMirror x0 : Nat)) x1) bx1c_0 ∧ OwMirrorResult W (.agg #[.int .i64 r.xCode, .int .i64 r.xMirror.xQ, .slice pg0_0 r.xMirror.xViews.length cg0_0]) (mkMirrorResult 1 r) bg0_0 ∧ OwMirrorResult W (.agg #[.int .i64 r.xCode, .int .i64 r.xMirror.xQ, .slice ph0_0 r.xMirror.xViews.length ch0_0]) r bh0_0 ∧ Blk W (nz) 28 #[.int .i64 r.xCode, .int .i64 r.xMirror.xQ, .slice ph0_0 r.xMirror.xViews.length ch0_0] ∧ Dj bw0_0 bh0_0 ∧ Dj bx0c_0 bh0_0 ∧ Dj bx1c_0 bh0_0 ∧ Dj bg0_0 bh0_0 ∧ w.heap.size ∉ bh0_0 ∧ w.heap.size + 1 ∉ bh0_0 ∧ nbw0 ∉ bh0_0 ∧ w19.heap.size ∉ bh0_0 ∧ w21.heap.size ∉ bh0_0 ∧ w23.heap.size ∉ bh0_0 ∧ (∀ y ∈ bh0_0, w.heap.size ≤ y) ∧ nz ∉ bw0_0 ∧ nz ∉ bx0c_0 ∧ nz ∉ bx1c_0 ∧ nz ∉ bg0_0 ∧ nz ∉ bh0_0)) := fun W O N => ⟨_, _, _, bh0_0, rfl, X0.off O (by simp), X1.off O (by simp), Yw0.off O (by simp), Z0.off O (by simp), Z1.off O (by simp), Yg0.off O (by simp), B.trans (O.toBelow B.size (by simp)), w0.off O (fun g hg hm => by cases hm), x0c.off O (fun g hg hm => by cases hm), x1c.off O (fun g hg hm => by cases hm), g0.off O (fun g hg hm => by cases hm), h0.off O (fun g hg hm => by cases hm), N, dj_w0_h0, dj_x0c_h0, dj_x1c_h0, dj_g0_h0, nb_X0_h0, nb_X1_h0, nb_Yw0_h0, nb_Z0_h0, nb_Z1_h0, nb_Yg0_h0, G_h0, (fun hm => Nat.lt_irrefl _ (w0.lt _ hm)), (fun hm => Nat.lt_irrefl _ (x0c.lt _ hm)), (fun hm => Nat.lt_irrefl _ (x1c.lt _ hm)), (fun hm => Nat.lt_irrefl _ (g0.lt _ hm)), (fun hm => Nat.lt_irrefl _ (h0.lt _ hm))⟩; have HSO : Hid (∀ W, Off [] w49 W → (∀ o, W.cell? ⟨w.heap.size, o, none⟩ = (#[.int .i64 x0.xQ, .slice p0_0 x0.xViews.length c0_0] : Array Value)[o]?) ∧ (∀ o, W.cell? ⟨w.heap.size + 1, o, none⟩ = (#[.int .i64 x1.xQ, .slice p1_0 x1.xViews.length c1_0] : Array Value)[o]?)) := fun W O => ⟨(X0.off O (by simp)).at.1, (X1.off O (by simp)).at.1⟩; have tkU : Hid True := trivial)); have hS := (show (∀ o, w49.cell? ⟨w.heap.size, o, none⟩ = (#[.int .i64 x0.xQ, .slice p0_0 x0.xViews.length c0_0] : Array Value)[o]?) ∧ (∀ o, w49.cell? ⟨w.heap.size + 1, o, none⟩ = (#[.int .i64 x1.xQ, .slice p1_0 x1.xViews.length c1_0] : Array Value)[o]?) from ⟨X0.at.1, X1.at.1⟩)))
      all_goals
        go_wp2
        go_meet
        case rel => first | (have _k := tkK; exact FIN.out _ (((((Off.refl _ _).setCell _ _ (by simp)).setCell _ _ (by simp)).setCell _ _ (by simp))) (Blk.of_eq ((((NB.set 0 _).set 1 _).set 2 _)) (by simp))) | (have _u := tkU; exact FIN.out _ ((Off.refl _ _).alloc _) (Blk.new _ _ _))
    case rest =>
      clear X0 X1 Yw0 Z0 Z1 Yg0 B w0 x0c x1c g0
      obtain ⟨nbh0, ph0_0, ch0_0, bh0_0, rfl, X0, X1, Yw0, Z0, Z1, Yg0, B, w0, x0c, x1c, g0, h0, Yh0, dj_w0_h0, dj_x0c_h0, dj_x1c_h0, dj_g0_h0, nb_X0_h0, nb_X1_h0, nb_Yw0_h0, nb_Z0_h0, nb_Z1_h0, nb_Yg0_h0, G_h0, nb_Yh0_w0, nb_Yh0_x0c, nb_Yh0_x1c, nb_Yh0_g0, nb_Yh0_h0⟩ := hcut
      obtain ⟨wc50, ewc⟩ : ∃ x : World, x = wc := ⟨_, rfl⟩
      subst ewc
      have X0a := X0.at.1
      have X0l := X0.lt
      have X1a := X1.at.1
      have X1l := X1.lt
      have Yw0a := Yw0.at.1
      have Yw0l := Yw0.lt
      have Z0a := Z0.at.1
      have Z0l := Z0.lt
      have Z1a := Z1.at.1
      have Z1l := Z1.lt
      have Yg0a := Yg0.at.1
      have Yg0l := Yg0.lt
      have Yh0a := Yh0.at.1
      have Yh0l := Yh0.lt
      go_wp2_with fail
      clear X0a X0l X1a X1l Yw0a Yw0l Z0a Z0l Z1a Z1l Yg0a Yg0l Yh0a Yh0l
      refine Calls.at (F := fun V => Blk V (w.heap.size) 24 #[.int .i64 x0.xQ, .slice p0_0 x0.xViews.length c0_0] ∧ Blk V (w.heap.size + 1) 24 #[.int .i64 x1.xQ, .slice p1_0 x1.xViews.length c1_0] ∧ Blk V (nbw0) 28 #[.int .i64 r.xCode, .int .i64 r.xMirror.xQ, .slice pw0_0 r.xMirror.xViews.length cw0_0] ∧ Blk V (w19.heap.size) 26 #[.int .i64 x0.xQ, .slice px0c_0 x0.xViews.length cx0c_0] ∧ Blk V (w21.heap.size) 26 #[.int .i64 x1.xQ, .slice px1c_0 x1.xViews.length cx1c_0] ∧ Blk V (w23.heap.size) 28 #[.int .i64 r.xCode, .int .i64 r.xMirror.xQ, .slice pg0_0 r.xMirror.xViews.length cg0_0] ∧ Blk V (nbh0) 28 #[.int .i64 r.xCode, .int .i64 r.xMirror.xQ, .slice ph0_0 r.xMirror.xViews.length ch0_0] ∧ Below w.heap.size w V ∧ OwMirrorResult V (.agg #[.int .i64 r.xCode, .int .i64 r.xMirror.xQ, .slice pw0_0 r.xMirror.xViews.length cw0_0]) r bw0_0 ∧ OwMirror V (.agg #[.int .i64 x0.xQ, .slice px0c_0 x0.xViews.length cx0c_0]) (mkMirror 1 x0) bx0c_0 ∧ OwMirror V (.agg #[.int .i64 x1.xQ, .slice px1c_0 x1.xViews.length cx1c_0]) (mkMirror (1 + (cntMirror x0 : Nat)) x1) bx1c_0 ∧ OwMirrorResult V (.agg #[.int .i64 r.xCode, .int .i64 r.xMirror.xQ, .slice pg0_0 r.xMirror.xViews.length cg0_0]) (mkMirrorResult 1 r) bg0_0 ∧ OwMirrorResult V (.agg #[.int .i64 r.xCode, .int .i64 r.xMirror.xQ, .slice ph0_0 r.xMirror.xViews.length ch0_0]) r bh0_0) ⟨X0, X1, Yw0, Z0, Z1, Yg0, Yh0, B, w0, x0c, x1c, g0, h0⟩ ?_
      clear X0 X1 Yw0 Z0 Z1 Yg0 Yh0 B w0 x0c x1c g0 h0
      rintro V51 ⟨X0, X1, Yw0, Z0, Z1, Yg0, Yh0, B, w0, x0c, x1c, g0, h0⟩
      refine (eqMirrorResult_rd _ _ r _ (by exact h0.rd) (by exact w0.rd)).mono ?_
      rintro e w52 ⟨rfl, hb52⟩
      replace X0 := X0.keep hb52
      replace X1 := X1.keep hb52
      replace Yw0 := Yw0.keep hb52
      replace Z0 := Z0.keep hb52
      replace Z1 := Z1.keep hb52
      replace Yg0 := Yg0.keep hb52
      replace Yh0 := Yh0.keep hb52
      replace w0 := w0.keep hb52
      replace x0c := x0c.keep hb52
      replace x1c := x1c.keep hb52
      replace g0 := g0.keep hb52
      replace h0 := h0.keep hb52
      replace B := B.trans (hb52.mono B.size)
      have X0a := X0.at.1
      have X0l := X0.lt
      have X1a := X1.at.1
      have X1l := X1.lt
      have Yw0a := Yw0.at.1
      have Yw0l := Yw0.lt
      have Z0a := Z0.at.1
      have Z0l := Z0.lt
      have Z1a := Z1.at.1
      have Z1l := Z1.lt
      have Yg0a := Yg0.at.1
      have Yg0l := Yg0.lt
      have Yh0a := Yh0.at.1
      have Yh0l := Yh0.lt
      go_wp2_with fail
      clear X0a X0l X1a X1l Yw0a Yw0l Z0a Z0l Z1a Z1l Yg0a Yg0l Yh0a Yh0l
      refine Calls.at (F := fun V => Blk V (w.heap.size) 24 #[.int .i64 x0.xQ, .slice p0_0 x0.xViews.length c0_0] ∧ Blk V (w.heap.size + 1) 24 #[.int .i64 x1.xQ, .slice p1_0 x1.xViews.length c1_0] ∧ Blk V (nbw0) 28 #[.int .i64 r.xCode, .int .i64 r.xMirror.xQ, .slice pw0_0 r.xMirror.xViews.length cw0_0] ∧ Blk V (w19.heap.size) 26 #[.int .i64 x0.xQ, .slice px0c_0 x0.xViews.length cx0c_0] ∧ Blk V (w21.heap.size) 26 #[.int .i64 x1.xQ, .slice px1c_0 x1.xViews.length cx1c_0] ∧ Blk V (w23.heap.size) 28 #[.int .i64 r.xCode, .int .i64 r.xMirror.xQ, .slice pg0_0 r.xMirror.xViews.length cg0_0] ∧ Blk V (nbh0) 28 #[.int .i64 r.xCode, .int .i64 r.xMirror.xQ, .slice ph0_0 r.xMirror.xViews.length ch0_0] ∧ Below w.heap.size w V ∧ OwMirrorResult V (.agg #[.int .i64 r.xCode, .int .i64 r.xMirror.xQ, .slice pw0_0 r.xMirror.xViews.length cw0_0]) r bw0_0 ∧ OwMirror V (.agg #[.int .i64 x0.xQ, .slice px0c_0 x0.xViews.length cx0c_0]) (mkMirror 1 x0) bx0c_0 ∧ OwMirror V (.agg #[.int .i64 x1.xQ, .slice px1c_0 x1.xViews.length cx1c_0]) (mkMirror (1 + (cntMirror x0 : Nat)) x1) bx1c_0 ∧ OwMirrorResult V (.agg #[.int .i64 r.xCode, .int .i64 r.xMirror.xQ, .slice pg0_0 r.xMirror.xViews.length cg0_0]) (mkMirrorResult 1 r) bg0_0 ∧ OwMirrorResult V (.agg #[.int .i64 r.xCode, .int .i64 r.xMirror.xQ, .slice ph0_0 r.xMirror.xViews.length ch0_0]) r bh0_0) ⟨X0, X1, Yw0, Z0, Z1, Yg0, Yh0, B, w0, x0c, x1c, g0, h0⟩ ?_
      clear X0 X1 Yw0 Z0 Z1 Yg0 Yh0 B w0 x0c x1c g0 h0
      rintro V53 ⟨X0, X1, Yw0, Z0, Z1, Yg0, Yh0, B, w0, x0c, x1c, g0, h0⟩
      refine (heldMirrorResult_rd _ r _ _ (by exact g0.rd) (by omega) (by omega)).mono ?_
      rintro e w54 ⟨rfl, hb54⟩
      replace X0 := X0.keep hb54
      replace X1 := X1.keep hb54
      replace Yw0 := Yw0.keep hb54
      replace Z0 := Z0.keep hb54
      replace Z1 := Z1.keep hb54
      replace Yg0 := Yg0.keep hb54
      replace Yh0 := Yh0.keep hb54
      replace w0 := w0.keep hb54
      replace x0c := x0c.keep hb54
      replace x1c := x1c.keep hb54
      replace g0 := g0.keep hb54
      replace h0 := h0.keep hb54
      replace B := B.trans (hb54.mono B.size)
      have X0a := X0.at.1
      have X0l := X0.lt
      have X1a := X1.at.1
      have X1l := X1.lt
      have Yw0a := Yw0.at.1
      have Yw0l := Yw0.lt
      have Z0a := Z0.at.1
      have Z0l := Z0.lt
      have Z1a := Z1.at.1
      have Z1l := Z1.lt
      have Yg0a := Yg0.at.1
      have Yg0l := Yg0.lt
      have Yh0a := Yh0.at.1
      have Yh0l := Yh0.lt
      go_wp2
      go_ret
      exact ⟨rfl, B⟩
/-! the row's step -/
set_option maxRecDepth 100000 in
theorem lifted (os : Os) (started : os.Started) (H : Type) (enc : TypeId × Value → H) :
    ReturnsInHanded {} Try.checked os 3 .any (Rows.fnExactSubMirrorsSpec.pre6 enc Try.prog Try.f3 Rows.fnExactSubMirrorsRow.domain false) (Rows.fnExactSubMirrorsSpec.post enc Try.prog Try.f3 false true false false) := by
  refine returnsInHanded_of_change (C := Try.checked) own started (by kernel_rfl) Try.func3
    (ChangeSpec.witness6 (enc := enc) (C := Try.checked) false ⟨#[], #[.agg #[.int .i64 0, .slice none 0 0], .agg #[.int .i64 0, .slice none 0 0]], []⟩ 8 (by kernel_rfl) (by kernel_rfl) (by kernel_rfl) (by kernel_rfl)) ?_
  intro W base args ds gs before hval0 hW hcnd _
  have hval : ∀ (j : Nat) t v, Try.f3.params[j]? = some t → args[j]? = some v → Value.okWide Try.prog W .any base t v := hval0
  have hW' := hW
  obtain ⟨p, q, hA0, hV, rfl, hfz, hnd⟩ := hW
  have hA : DataW.TrodAll enc Try.prog W 0 (fun _ => true) true Try.f3.params.toList args.toList ds p := hA0
  rw [Try.params3] at hA hval
  obtain ⟨v0, vs0, d0, ds0, p0, q0, hargs, rfl, rfl, h0, r0⟩ := trodAll_cons hA
  obtain ⟨v1, vs1, d1, ds1, p1, q1, rfl, rfl, rfl, h1, r1⟩ := trodAll_cons r0
  obtain ⟨rfl, rfl, rfl⟩ := trodAll_nil r1
  obtain rfl : args = #[v0, v1] := by cases args; simp_all
  obtain ⟨rfl, rfl⟩ := trodVars_none hV
  have k0 := h0
  have lt0 : ∀ x ∈ p0, x.block < W.heap.size := by obtain ⟨m, hm⟩ := k0; exact DataW.trod_lt m _ _ _ hm
  obtain ⟨cs0, rfl, _⟩ := okWide_struct Try.underlying24 (hval 0 24 v0 rfl rfl)
  obtain ⟨x0, w0⟩ : ∃ y, RdMirror W (.agg cs0) y := by
    obtain ⟨fuel, hf⟩ := h0
    obtain ⟨y, q⟩ := open_Mirror hf
    exact ⟨y, by simpa [Value.cells] using q⟩
  have k1 := h1
  have lt1 : ∀ x ∈ p1, x.block < W.heap.size := by obtain ⟨m, hm⟩ := k1; exact DataW.trod_lt m _ _ _ hm
  obtain ⟨cs1, rfl, _⟩ := okWide_struct Try.underlying24 (hval 1 24 v1 rfl rfl)
  obtain ⟨x1, w1⟩ : ∃ y, RdMirror W (.agg cs1) y := by
    obtain ⟨fuel, hf⟩ := h1
    obtain ⟨y, q⟩ := open_Mirror hf
    exact ⟨y, by simpa [Value.cells] using q⟩
  clear hA0 hval0
  refine (walk _ x0 _ x1 W w0 w1).mono fun e W' ⟨he, bel⟩ => ?_
  subst he
  exact ⟨_, rfl, _, _, _, [], _, [], hW', trodAll_mk1 (shut_bool Try.underlying4 _), (trodAll_cons_mk (Below.trod laidOut (by kernel_rfl) (of_decide_eq_true (by kernel_rfl)) k0 bel lt0) (trodAll_cons_mk (Below.trod laidOut (by kernel_rfl) (of_decide_eq_true (by kernel_rfl)) k1 bel lt1) trodAll_mk0)), rfl, bel.frame _, fun h => by cases h⟩

theorem over : Rows.fnExactSubMirrorsRow.holds Try.pinned (OpenSpec.ofChange Rows.fnExactSubMirrorsSpec) :=
  OpenClaim.holds_of_wide 3 Try.f3 rfl rfl rfl rfl rfl rfl rfl ⟨rfl, rfl, rfl, rfl, rfl⟩ rfl rfl rfl rfl rfl (by kernel_rfl) Try.func3 (by kernel_rfl)
    (of_decide_eq_true (by kernel_rfl)) (by unfold Func.isWrapper; first | (rw [if_pos (by decide +kernel)]; kernel_rfl) | (rw [if_neg (by decide +kernel)]; exact ⟨rfl, rfl⟩))
    (fun os started H enc _ => lifted os started H enc)

end Go.Proofs.Ytepobckhfodngaj.fnExactSubMirrors
namespace Go.Proofs.Ytepobckhfodngaj
theorem fnExactSubMirrors_holds : Rows.FnExactSubMirrorsSaid := fnExactSubMirrors.over
#print axioms fnExactSubMirrors_holds
end Go.Proofs.Ytepobckhfodngaj
