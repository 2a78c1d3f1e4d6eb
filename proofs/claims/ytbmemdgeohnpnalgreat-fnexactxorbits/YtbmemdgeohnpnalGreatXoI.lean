/-
  Two bits in the ring in the program: XorBits.
-/
import Derived.Test.YtbmemdgeohnpnalGreatXoP
import Derived.Deep.RegionHeld3
import Derived.Deep.Cut
namespace Go.Proofs.YtbmemdgeohnpnalGreat
open Go.ChangeShapes Go.WideShapes Go.ChangeAt Go.RowKit
set_option linter.unusedVariables false
set_option maxHeartbeats 16000000 in
set_option maxRecDepth 100000 in
theorem impl_XorBits (vv : Value) (x : MNet) (va : Value) (a : MMirror) (vb : Value) (b : MMirror) (w : World) (hv : RdNet w vv x) (hx : Fit x) (ra : RdMirror w va a) (rb : RdMirror w vb b) :
    Calls Tryz.prog 20 #[vv, va, vb] w fun e w' => OutMix w w' (xorR (xorC x a b) x a b) e := by
  have KF := fun W u z (hb : Below w.heap.size w W) (s : RdMirrorS W u [a]) (t : RdMirrorS W z [b]) => impl_dotFault vv x u z [a] [b] W (hv.below hb) s t
  simp only [dotCI_one] at KF
  have KC := fun W (hb : Below w.heap.size w W) => impl_copyOfNetT vv x W (hv.below hb) hx
  have ra0 := ra
  have rb0 := rb
  obtain ⟨cs, rfl, R⟩ := hv.row
  obtain ⟨pa, ca, rfl, ga⟩ := ra
  obtain ⟨pb, cb, rfl, gb⟩ := rb
  have hR := R.hi (P := Tryz.prog) (T := 41) (by kernel_rfl)
  have X0 : Blk ((((w.alloc (.cells cs 41)).alloc (.cells #[.int .i64 a.xQ, .slice pa a.xViews.length ca] 36)).alloc (.cells #[.int .i64 b.xQ, .slice pb b.xViews.length cb] 36)).alloc (.cells #[.int .i64 0, .int .i64 0, .slice none 0 0, .slice none 0 0, .slice none 0 0, .int .i64 0, .slice none 0 0, .int .i64 0, .int .i64 0, .int .i64 0, .bool false, .bool false, .int .i64 0, .int .i64 0, .int .i64 0, .int .i64 0, .int .i64 0, .int .i64 0, .int .i64 0] 43)) w.heap.size 41 cs := (((Blk.new w _ _).alloc _).alloc _).alloc _
  have XA : Blk ((((w.alloc (.cells cs 41)).alloc (.cells #[.int .i64 a.xQ, .slice pa a.xViews.length ca] 36)).alloc (.cells #[.int .i64 b.xQ, .slice pb b.xViews.length cb] 36)).alloc (.cells #[.int .i64 0, .int .i64 0, .slice none 0 0, .slice none 0 0, .slice none 0 0, .int .i64 0, .slice none 0 0, .int .i64 0, .int .i64 0, .int .i64 0, .bool false, .bool false, .int .i64 0, .int .i64 0, .int .i64 0, .int .i64 0, .int .i64 0, .int .i64 0, .int .i64 0] 43)) (w.heap.size + 1) 36 #[.int .i64 a.xQ, .slice pa a.xViews.length ca] := by simpa using ((Blk.new (w.alloc (.cells cs 41)) 36 #[.int .i64 a.xQ, .slice pa a.xViews.length ca]).alloc (.cells #[.int .i64 b.xQ, .slice pb b.xViews.length cb] 36)).alloc (.cells #[.int .i64 0, .int .i64 0, .slice none 0 0, .slice none 0 0, .slice none 0 0, .int .i64 0, .slice none 0 0, .int .i64 0, .int .i64 0, .int .i64 0, .bool false, .bool false, .int .i64 0, .int .i64 0, .int .i64 0, .int .i64 0, .int .i64 0, .int .i64 0, .int .i64 0] 43)
  have XB : Blk (((((w.alloc (.cells cs 41)).alloc (.cells #[.int .i64 a.xQ, .slice pa a.xViews.length ca] 36)).alloc (.cells #[.int .i64 b.xQ, .slice pb b.xViews.length cb] 36)).alloc (.cells #[.int .i64 0, .int .i64 0, .slice none 0 0, .slice none 0 0, .slice none 0 0, .int .i64 0, .slice none 0 0, .int .i64 0, .int .i64 0, .int .i64 0, .bool false, .bool false, .int .i64 0, .int .i64 0, .int .i64 0, .int .i64 0, .int .i64 0, .int .i64 0, .int .i64 0] 43)).alloc (.cells #[.int .i64 a.xQ, .slice pa a.xViews.length ca] 36)) (w.heap.size + 2) 36 #[.int .i64 b.xQ, .slice pb b.xViews.length cb] := by simpa using ((Blk.new ((w.alloc (.cells cs 41)).alloc (.cells #[.int .i64 a.xQ, .slice pa a.xViews.length ca] 36)) 36 #[.int .i64 b.xQ, .slice pb b.xViews.length cb]).alloc (.cells #[.int .i64 0, .int .i64 0, .slice none 0 0, .slice none 0 0, .slice none 0 0, .int .i64 0, .slice none 0 0, .int .i64 0, .int .i64 0, .int .i64 0, .bool false, .bool false, .int .i64 0, .int .i64 0, .int .i64 0, .int .i64 0, .int .i64 0, .int .i64 0, .int .i64 0] 43)).alloc (.cells #[.int .i64 a.xQ, .slice pa a.xViews.length ca] 36)
  have X6 : Blk ((((((w.alloc (.cells cs 41)).alloc (.cells #[.int .i64 a.xQ, .slice pa a.xViews.length ca] 36)).alloc (.cells #[.int .i64 b.xQ, .slice pb b.xViews.length cb] 36)).alloc (.cells #[.int .i64 0, .int .i64 0, .slice none 0 0, .slice none 0 0, .slice none 0 0, .int .i64 0, .slice none 0 0, .int .i64 0, .int .i64 0, .int .i64 0, .bool false, .bool false, .int .i64 0, .int .i64 0, .int .i64 0, .int .i64 0, .int .i64 0, .int .i64 0, .int .i64 0] 43)).alloc (.cells #[.int .i64 a.xQ, .slice pa a.xViews.length ca] 36)).alloc (.cells #[.int .i64 b.xQ, .slice pb b.xViews.length cb] 36)) w.heap.size 41 cs := (X0.alloc _).alloc _
  have XA6 : Blk ((((((w.alloc (.cells cs 41)).alloc (.cells #[.int .i64 a.xQ, .slice pa a.xViews.length ca] 36)).alloc (.cells #[.int .i64 b.xQ, .slice pb b.xViews.length cb] 36)).alloc (.cells #[.int .i64 0, .int .i64 0, .slice none 0 0, .slice none 0 0, .slice none 0 0, .int .i64 0, .slice none 0 0, .int .i64 0, .int .i64 0, .int .i64 0, .bool false, .bool false, .int .i64 0, .int .i64 0, .int .i64 0, .int .i64 0, .int .i64 0, .int .i64 0, .int .i64 0] 43)).alloc (.cells #[.int .i64 a.xQ, .slice pa a.xViews.length ca] 36)).alloc (.cells #[.int .i64 b.xQ, .slice pb b.xViews.length cb] 36)) (w.heap.size + 1) 36 #[.int .i64 a.xQ, .slice pa a.xViews.length ca] := (XA.alloc _).alloc _
  have XB6 : Blk ((((((w.alloc (.cells cs 41)).alloc (.cells #[.int .i64 a.xQ, .slice pa a.xViews.length ca] 36)).alloc (.cells #[.int .i64 b.xQ, .slice pb b.xViews.length cb] 36)).alloc (.cells #[.int .i64 0, .int .i64 0, .slice none 0 0, .slice none 0 0, .slice none 0 0, .int .i64 0, .slice none 0 0, .int .i64 0, .int .i64 0, .int .i64 0, .bool false, .bool false, .int .i64 0, .int .i64 0, .int .i64 0, .int .i64 0, .int .i64 0, .int .i64 0, .int .i64 0] 43)).alloc (.cells #[.int .i64 a.xQ, .slice pa a.xViews.length ca] 36)).alloc (.cells #[.int .i64 b.xQ, .slice pb b.xViews.length cb] 36)) (w.heap.size + 2) 36 #[.int .i64 b.xQ, .slice pb b.xViews.length cb] := XB.alloc _
  have Y6 : Blk ((((((w.alloc (.cells cs 41)).alloc (.cells #[.int .i64 a.xQ, .slice pa a.xViews.length ca] 36)).alloc (.cells #[.int .i64 b.xQ, .slice pb b.xViews.length cb] 36)).alloc (.cells #[.int .i64 0, .int .i64 0, .slice none 0 0, .slice none 0 0, .slice none 0 0, .int .i64 0, .slice none 0 0, .int .i64 0, .int .i64 0, .int .i64 0, .bool false, .bool false, .int .i64 0, .int .i64 0, .int .i64 0, .int .i64 0, .int .i64 0, .int .i64 0, .int .i64 0] 43)).alloc (.cells #[.int .i64 a.xQ, .slice pa a.xViews.length ca] 36)).alloc (.cells #[.int .i64 b.xQ, .slice pb b.xViews.length cb] 36)) (w.heap.size + 3) 43 #[.int .i64 0, .int .i64 0, .slice none 0 0, .slice none 0 0, .slice none 0 0, .int .i64 0, .slice none 0 0, .int .i64 0, .int .i64 0, .int .i64 0, .bool false, .bool false, .int .i64 0, .int .i64 0, .int .i64 0, .int .i64 0, .int .i64 0, .int .i64 0, .int .i64 0] := by simpa using ((Blk.new (((w.alloc (.cells cs 41)).alloc (.cells #[.int .i64 a.xQ, .slice pa a.xViews.length ca] 36)).alloc (.cells #[.int .i64 b.xQ, .slice pb b.xViews.length cb] 36)) 43 #[.int .i64 0, .int .i64 0, .slice none 0 0, .slice none 0 0, .slice none 0 0, .int .i64 0, .slice none 0 0, .int .i64 0, .int .i64 0, .int .i64 0, .bool false, .bool false, .int .i64 0, .int .i64 0, .int .i64 0, .int .i64 0, .int .i64 0, .int .i64 0, .int .i64 0]).alloc (.cells #[.int .i64 a.xQ, .slice pa a.xViews.length ca] 36)).alloc (.cells #[.int .i64 b.xQ, .slice pb b.xViews.length cb] 36)
  have SA : Blk ((((((w.alloc (.cells cs 41)).alloc (.cells #[.int .i64 a.xQ, .slice pa a.xViews.length ca] 36)).alloc (.cells #[.int .i64 b.xQ, .slice pb b.xViews.length cb] 36)).alloc (.cells #[.int .i64 0, .int .i64 0, .slice none 0 0, .slice none 0 0, .slice none 0 0, .int .i64 0, .slice none 0 0, .int .i64 0, .int .i64 0, .int .i64 0, .bool false, .bool false, .int .i64 0, .int .i64 0, .int .i64 0, .int .i64 0, .int .i64 0, .int .i64 0, .int .i64 0] 43)).alloc (.cells #[.int .i64 a.xQ, .slice pa a.xViews.length ca] 36)).alloc (.cells #[.int .i64 b.xQ, .slice pb b.xViews.length cb] 36)) (w.heap.size + 4) 36 #[.int .i64 a.xQ, .slice pa a.xViews.length ca] := by simpa using (Blk.new ((((w.alloc (.cells cs 41)).alloc (.cells #[.int .i64 a.xQ, .slice pa a.xViews.length ca] 36)).alloc (.cells #[.int .i64 b.xQ, .slice pb b.xViews.length cb] 36)).alloc (.cells #[.int .i64 0, .int .i64 0, .slice none 0 0, .slice none 0 0, .slice none 0 0, .int .i64 0, .slice none 0 0, .int .i64 0, .int .i64 0, .int .i64 0, .bool false, .bool false, .int .i64 0, .int .i64 0, .int .i64 0, .int .i64 0, .int .i64 0, .int .i64 0, .int .i64 0] 43)) 36 #[.int .i64 a.xQ, .slice pa a.xViews.length ca]).alloc (.cells #[.int .i64 b.xQ, .slice pb b.xViews.length cb] 36)
  have SB : Blk ((((((w.alloc (.cells cs 41)).alloc (.cells #[.int .i64 a.xQ, .slice pa a.xViews.length ca] 36)).alloc (.cells #[.int .i64 b.xQ, .slice pb b.xViews.length cb] 36)).alloc (.cells #[.int .i64 0, .int .i64 0, .slice none 0 0, .slice none 0 0, .slice none 0 0, .int .i64 0, .slice none 0 0, .int .i64 0, .int .i64 0, .int .i64 0, .bool false, .bool false, .int .i64 0, .int .i64 0, .int .i64 0, .int .i64 0, .int .i64 0, .int .i64 0, .int .i64 0] 43)).alloc (.cells #[.int .i64 a.xQ, .slice pa a.xViews.length ca] 36)).alloc (.cells #[.int .i64 b.xQ, .slice pb b.xViews.length cb] 36)) (w.heap.size + 5) 36 #[.int .i64 b.xQ, .slice pb b.xViews.length cb] := by simpa using Blk.new (((((w.alloc (.cells cs 41)).alloc (.cells #[.int .i64 a.xQ, .slice pa a.xViews.length ca] 36)).alloc (.cells #[.int .i64 b.xQ, .slice pb b.xViews.length cb] 36)).alloc (.cells #[.int .i64 0, .int .i64 0, .slice none 0 0, .slice none 0 0, .slice none 0 0, .int .i64 0, .slice none 0 0, .int .i64 0, .int .i64 0, .int .i64 0, .bool false, .bool false, .int .i64 0, .int .i64 0, .int .i64 0, .int .i64 0, .int .i64 0, .int .i64 0, .int .i64 0] 43)).alloc (.cells #[.int .i64 a.xQ, .slice pa a.xViews.length ca] 36)) 36 #[.int .i64 b.xQ, .slice pb b.xViews.length cb]
  have B6 : Below w.heap.size w ((((((w.alloc (.cells cs 41)).alloc (.cells #[.int .i64 a.xQ, .slice pa a.xViews.length ca] 36)).alloc (.cells #[.int .i64 b.xQ, .slice pb b.xViews.length cb] 36)).alloc (.cells #[.int .i64 0, .int .i64 0, .slice none 0 0, .slice none 0 0, .slice none 0 0, .int .i64 0, .slice none 0 0, .int .i64 0, .int .i64 0, .int .i64 0, .bool false, .bool false, .int .i64 0, .int .i64 0, .int .i64 0, .int .i64 0, .int .i64 0, .int .i64 0, .int .i64 0] 43)).alloc (.cells #[.int .i64 a.xQ, .slice pa a.xViews.length ca] 36)).alloc (.cells #[.int .i64 b.xQ, .slice pb b.xViews.length cb] 36)) := (by repeat (first | exact Below.refl _ _ | refine Below.drew ?_ | refine below_drewN ?_ _ | refine Below.setCell ?_ (by first | omega | (simp; done) | (simp; omega)) _ | refine Below.alloc ?_ (by first | omega | (simp; done) | (simp; omega)) _))
  have z6 : ((((((w.alloc (.cells cs 41)).alloc (.cells #[.int .i64 a.xQ, .slice pa a.xViews.length ca] 36)).alloc (.cells #[.int .i64 b.xQ, .slice pb b.xViews.length cb] 36)).alloc (.cells #[.int .i64 0, .int .i64 0, .slice none 0 0, .slice none 0 0, .slice none 0 0, .int .i64 0, .slice none 0 0, .int .i64 0, .int .i64 0, .int .i64 0, .bool false, .bool false, .int .i64 0, .int .i64 0, .int .i64 0, .int .i64 0, .int .i64 0, .int .i64 0, .int .i64 0] 43)).alloc (.cells #[.int .i64 a.xQ, .slice pa a.xViews.length ca] 36)).alloc (.cells #[.int .i64 b.xQ, .slice pb b.xViews.length cb] 36)).heap.size = w.heap.size + 6 := by simp
  have K := KF _ _ _ B6 (RdMirrorS.one SA (ga.below B6)) (RdMirrorS.one SB (gb.below B6))
  clear KF SA SB hv
  by_cases hc : dotCS x [a] [b] = 0
  · by_cases hq : a.xQ = 256
    · obtain ⟨zn, hqs, RO⟩ := dotCS_zero hc
      have NB := NetB.of zn hx
      have hH0 : 0 < x.xHeard.length := by rw [NB.h4]; omega
      have eQ : (([a] : List MMirror).getD 0 zM).xQ = 256 := hq
      rw [eQ] at RO
      have RO1 : RowOk 256 1 [a] [b] := RO
      have sA : Sq a.xViews := RO1.sx 0 (by omega)
      have sB : Sq b.xViews := RO1.sy 0 (by omega)
      have bA : ∀ i j, 0 ≤ pt a.xViews i j ∧ pt a.xViews i j < 256 := RO1.bx 0
      have bB : ∀ i j, 0 ≤ pt b.xViews i j ∧ pt b.xViews i j < 256 := RO1.by' 0
      have KVA := fun W (h : RdMirror W (.agg #[.int .i64 a.xQ, .slice pa a.xViews.length ca]) a) => impl_viewsOf (.agg #[.int .i64 a.xQ, .slice pa a.xViews.length ca]) a W h sA
      have KVB := fun W (h : RdMirror W (.agg #[.int .i64 b.xQ, .slice pb b.xViews.length cb]) b) => impl_viewsOf (.agg #[.int .i64 b.xQ, .slice pb b.xViews.length cb]) b W h sB
      have KJ1 := fun W => join_add_flat a.xViews b.xViews W sA sB bA bB
      rw [← ag2_flat sA, ← ag2_flat sB] at KJ1
      have KRow := fun W u z (s : RdMirrorS W u [a]) (t : RdMirrorS W z [b]) => impl_rowOf 256 u z 1 [a] [b] W s t rfl rfl (by omega) RO1.sx RO1.sy hq
      have KD := fun W gx cx gy cy b0 bs hN hX hY n1 n2 => impl_dot 256 gx cx gy cy 1 (vsOf [a]) (vsOf [b]) b0 x bs 0 W hN NB (by omega) hX hY (.inr rfl) (by omega) RO1.bx RO1.by' n1 n2
      obtain ⟨hOKN, hOKF⟩ := dot_ok (q := 256) (.inr rfl) (vsOf [a]) (vsOf [b]) 1 NB
      have HRES : Hid (xorR (xorC x a b) x a b = ⟨0, mOf (dotX 256 (vsOf [a]) (vsOf [b]) 1 x).xQuarrel.xSome 256 (xoV a.xViews b.xViews (dotS 256 (vsOf [a]) (vsOf [b]) 1 x)).flatten, dotX 256 (vsOf [a]) (vsOf [b]) 1 x⟩) := by show _ = _; rw [xorC_ok hc hq, xorR_ok]; rfl
      have HH2 : Hid (0 < (dotX 256 (vsOf [a]) (vsOf [b]) 1 x).xHeard.length) := by have := hOKN.h4; show _ < _; omega
      rw [hc] at K
      clear RO RO1 eQ hqs zn NB hOKN
      generalize dotX 256 (vsOf [a]) (vsOf [b]) 1 x = x2 at *
      generalize dotS 256 (vsOf [a]) (vsOf [b]) 1 x = fs at *
      have HFL : Hid (fs.length = 16) := hOKF.1
      have KJ2 := fun W => join_add_flat (unflat fs) (unflat fs) W (unflat_sq fs) (unflat_sq fs) (unflat_bd2 hOKF) (unflat_bd2 hOKF)
      rw [unflat_flat hOKF.1] at KJ2
      have KJ3 := fun W => join_sub_flat (xoA a.xViews b.xViews) (xoB fs) W (opRows_sq _ _ _ _) (opRows_sq _ _ _ _) (opRows_bd2 _ _ _) (opRows_bd2 _ _ _)
      have HV : Hid (xoV a.xViews b.xViews fs = opRows (fun x y => x - y) 256 (xoA a.xViews b.xViews) (xoB fs)) := rfl
      change ∀ W, Calls _ _ _ W (fun e w' => e = .returned (.agg (cells1 (xoA a.xViews b.xViews).flatten)) ∧ _) at KJ1
      change ∀ W, Calls _ _ _ W (fun e w' => e = .returned (.agg (cells1 (xoB fs).flatten)) ∧ _) at KJ2
      rw [HV.out] at HRES
      have hfA : (xoA a.xViews b.xViews).flatten.length = 16 := flat_len (opRows_sq _ _ _ _)
      have hfB : (xoB fs).flatten.length = 16 := flat_len (opRows_sq _ _ _ _)
      have hfC : (opRows (fun x y => x - y) 256 (xoA a.xViews b.xViews) (xoB fs)).flatten.length = 16 := flat_len (opRows_sq _ _ _ _)
      clear HV hOKF hc
      generalize (opRows (fun x y => x - y) 256 (xoA a.xViews b.xViews) (xoB fs)).flatten = fC at *
      generalize (xoA a.xViews b.xViews).flatten = fA at *
      generalize (xoB fs).flatten = fB at *
      generalize ag2 a.xViews = gA at *
      generalize ag2 b.xViews = gB at *
      have HRA0 : Hid (RdMirror w (.agg #[.int .i64 a.xQ, .slice pa a.xViews.length ca]) a) := ra0
      have HRB0 : Hid (RdMirror w (.agg #[.int .i64 b.xQ, .slice pb b.xViews.length cb]) b) := rb0
      have e256 : (a.xQ != 256) = false := by simpa using hq
      clear ra0 rb0 hq sA sB bA bB
      go_enter Tryz.func20, Tryz.ntmps20
      go_wp2_with (first | (refine wpList_load_blk rfl 41 _ rfl w.heap.size rfl X0 Tryz.underlying41 rfl hR ?_) | (refine wpList_load_blk rfl 36 _ rfl (w.heap.size + 1) rfl XA Tryz.underlying36 rfl (by kernel_rfl) ?_) | (refine wpList_load_blk rfl 36 _ rfl (w.heap.size + 2) rfl XB Tryz.underlying36 rfl (by kernel_rfl) ?_))
      refine K.mono ?_
      rintro e w7 ⟨rfl, hb7⟩
      have X7 := X6.keep hb7
      have XA7 := XA6.keep hb7
      have XB7 := XB6.keep hb7
      have Y7 := Y6.keep hb7
      have B7 := B6.trans (hb7.mono B6.size)
      have z7 := hb7.size
      rw [z6] at z7
      clear X0 XA XB X6 XA6 XB6 Y6 B6 hb7 K z6
      have xq := XA7.at.1
      have xl := XA7.lt
      go_wp2_with (refine wpList_load_blk rfl 41 _ rfl w.heap.size rfl X7 Tryz.underlying41 rfl hR ?_)
      clear xq xl
      refine (KC _ B7).mono ?_
      rintro e w8 ⟨q0, d0, q1, d1, q2, d2, bt, b1, b2, rfl, T1, U1, H1, j01, j02, j12, f0, f1, f2, hb1⟩
      have XA8 := XA7.keep hb1
      have XB8 := XB7.keep hb1
      have Y8 := Y7.keep hb1
      have B8 := B7.trans (hb1.mono B7.size)
      have z8 := Nat.le_trans z7 hb1.size
      have fw0 := fun y hy => Nat.le_trans z7 (f0 y hy)
      have fw1 := fun y hy => Nat.le_trans z7 (f1 y hy)
      have fw2 := fun y hy => Nat.le_trans z7 (f2 y hy)
      clear X7 XA7 XB7 Y7 B7 hb1 f0 f1 f2 KC z7
      have Zn := Blk.new w8 41 #[.slice none 0 0, .slice none 0 0, .int .i64 0, .slice none 0 0, .int .i64 0, .int .i64 0, .int .i64 0, .bool false, .bool false, .int .i64 0, .int .i64 0, .int .i64 0, .int .i64 0, .int .i64 0, .int .i64 0, .int .i64 0]
      go_upto_region 7 with (refine wpList_store_blk rfl 41 _ _ rfl w8.heap.size (#[.slice q0 x.xTape.length d0, .slice q1 x.xUsed.length d1, .int .i64 x.xSent, .slice q2 x.xHeard.length d2, .int .i64 x.xCheat.xWho, .int .i64 x.xCheat.xAt, .int .i64 x.xCheat.xBy, .bool x.xCheat.xCry, .bool x.xQuarrel.xSome, .int .i64 x.xQuarrel.xFrom, .int .i64 x.xQuarrel.xCheck, .int .i64 x.xQuarrel.xTo, .int .i64 x.xQuarrel.xTold, .int .i64 x.xQuarrel.xHeard, .int .i64 x.xQuarrel.xOther, .int .i64 x.xQuarrel.xVowed]) rfl rfl Zn rfl (by kernel_rfl) (by kernel_rfl) ?_; intro w2 Z2 O2)
      have O2' : Off [w8.heap.size] w8 w2 := ((Off.refl _ _).alloc _).trans O2
      have N2 : NetIn w2 w8.heap.size x (bt ++ (b1 ++ b2)) := NetIn.of Z2 (T1.off O2' (fun y hy hm => by have := T1.lt y hy; simp at hm; omega)) (U1.off O2' (fun y hy hm => by have := U1.lt y hy; simp at hm; omega)) (H1.off O2' (fun y hy hm => by have := H1.lt y hy; simp at hm; omega)) (fun hm => Nat.lt_irrefl _ (T1.lt _ hm)) (fun hm => Nat.lt_irrefl _ (U1.lt _ hm)) (fun hm => Nat.lt_irrefl _ (H1.lt _ hm)) j01 j02 j12 hH0
      have XA2 := XA8.off O2' (by simp; omega)
      have XB2 := XB8.off O2' (by simp; omega)
      have Y2 := Y8.off O2' (by simp; omega)
      have B2 : Below w.heap.size w w2 := B8.trans (O2'.toBelow B8.size (by have := B8.size; simp; omega))
      have hbs : ∀ y ∈ bt ++ (b1 ++ b2), w.heap.size + 6 ≤ y := fun y hy => by rcases List.mem_append.1 hy with h | h; (exact fw0 y h); (rcases List.mem_append.1 h with h | h; (exact fw1 y h); (exact fw2 y h))
      have lZ := Z2.lt
      have hbl : ∀ y ∈ bt ++ (b1 ++ b2), y < w2.heap.size := N2.lts
      have gz8 : w.heap.size + 6 ≤ w8.heap.size := z8
      clear Zn T1 U1 H1 O2 O2' XA8 XB8 Y8 B8 fw0 fw1 fw2 Z2 j01 j02 j12 z8
      generalize bt ++ (b1 ++ b2) = bs at *
      generalize w8.heap.size = g at *
      obtain ⟨f00, f01, f02, f03, f10, f11, f12, f13, f20, f21, f22, f23, f30, f31, f32, f33, hfl⟩ := lit16 hfA
      have HC1 : Hid (cells1 fA = #[.int .i64 f00, .int .i64 f01, .int .i64 f02, .int .i64 f03, .int .i64 f10, .int .i64 f11, .int .i64 f12, .int .i64 f13, .int .i64 f20, .int .i64 f21, .int .i64 f22, .int .i64 f23, .int .i64 f30, .int .i64 f31, .int .i64 f32, .int .i64 f33]) := by show _ = _; rw [hfl]; rfl
      rw [HC1.out] at KJ1
      go_wp2_with fail
      simp only [Act.put]
      go_cut [9] from 28 (fun s wr => ∃ nz : Nat, s = .pointer (some ⟨nz, 0, none⟩) ∧ Below w2.heap.size w2 wr ∧ w2.heap.size ≤ nz ∧ Blk wr nz 87 #[.int .i64 f00, .int .i64 f01, .int .i64 f02, .int .i64 f03, .int .i64 f10, .int .i64 f11, .int .i64 f12, .int .i64 f13, .int .i64 f20, .int .i64 f21, .int .i64 f22, .int .i64 f23, .int .i64 f30, .int .i64 f31, .int .i64 f32, .int .i64 f33])
      case first =>
        have BD : Below w2.heap.size w2 w2 := Below.refl _ _
        have HS : Hid (∀ V, Below w2.heap.size w2 V → (∀ o, V.cell? ⟨w.heap.size + 1, o, none⟩ = (#[.int .i64 a.xQ, .slice pa a.xViews.length ca] : Array Value)[o]?) ∧ (∀ o, V.cell? ⟨w.heap.size + 1 + 1, o, none⟩ = (#[.int .i64 b.xQ, .slice pb b.xViews.length cb] : Array Value)[o]?)) := fun V q => ⟨(XA2.keep q).at.1, (XB2.keep q).at.1⟩
        have HRA : Hid (∀ V, Below w2.heap.size w2 V → RdMirror V (.agg #[.int .i64 a.xQ, .slice pa a.xViews.length ca]) a) := fun V q => HRA0.out.below (B2.trans (q.mono B2.size))
        have HRB : Hid (∀ V, Below w2.heap.size w2 V → RdMirror V (.agg #[.int .i64 b.xQ, .slice pb b.xViews.length cb]) b) := fun V q => HRB0.out.below (B2.trans (q.mono B2.size))
        have BP := BD
        replace BD := BD.drew
        have tk0 : Hid True := trivial
        have tk1 : Hid True := trivial
        have tk2 : Hid True := trivial
        have l0 : w.heap.size + 2 < w2.heap.size := XB2.lt
        go_region_held3 (fun V => (∀ o, V.cell? ⟨w.heap.size + 1, o, none⟩ = (#[.int .i64 a.xQ, .slice pa a.xViews.length ca] : Array Value)[o]?) ∧ (∀ o, V.cell? ⟨w.heap.size + 1 + 1, o, none⟩ = (#[.int .i64 b.xQ, .slice pb b.xViews.length cb] : Array Value)[o]?)) (first | with_reducible exact HS.out _ BD | with_reducible exact HS.out _ (BD.alloc BD.size _) | with_reducible exact HS.out _ (BP.alloc BP.size _).drew | exact HS.out _ ((((((((((((((((BD.setCell (by first | omega | (simp; omega)) _).setCell (by first | omega | (simp; omega)) _).setCell (by first | omega | (simp; omega)) _).setCell (by first | omega | (simp; omega)) _).setCell (by first | omega | (simp; omega)) _).setCell (by first | omega | (simp; omega)) _).setCell (by first | omega | (simp; omega)) _).setCell (by first | omega | (simp; omega)) _).setCell (by first | omega | (simp; omega)) _).setCell (by first | omega | (simp; omega)) _).setCell (by first | omega | (simp; omega)) _).setCell (by first | omega | (simp; omega)) _).setCell (by first | omega | (simp; omega)) _).setCell (by first | omega | (simp; omega)) _).setCell (by first | omega | (simp; omega)) _).setCell (by first | omega | (simp; omega)) _)) (first | (go_at_call 52; have _t := tk0; clear _t tk0; refine (KVA _ (by first | with_reducible exact HRA.out _ BD | with_reducible exact HRA.out _ (BD.alloc BD.size _) | with_reducible exact HRA.out _ (BP.alloc BP.size _).drew)).mono ?_; rintro e wN ⟨rfl, hbN⟩; (first | (have _a := tkA; replace NB := NB.keep hbN; replace BD := BD.trans (hbN.mono BD.size); clear hbN) | (have BE : Below w2.heap.size w2 wN := (by with_reducible exact BD.trans (hbN.mono BD.size)); replace BD := BE; clear BE hbN) | (have NB := (Blk.new _ 87 #[.int .i64 0, .int .i64 0, .int .i64 0, .int .i64 0, .int .i64 0, .int .i64 0, .int .i64 0, .int .i64 0, .int .i64 0, .int .i64 0, .int .i64 0, .int .i64 0, .int .i64 0, .int .i64 0, .int .i64 0, .int .i64 0]).keep hbN; have nbl := BD.size; have tkA : Hid True := trivial; replace BD := (BD.alloc BD.size _).trans (hbN.mono (BD.alloc BD.size _).size); clear hbN) | (have NB := (Blk.new _ 87 #[.int .i64 0, .int .i64 0, .int .i64 0, .int .i64 0, .int .i64 0, .int .i64 0, .int .i64 0, .int .i64 0, .int .i64 0, .int .i64 0, .int .i64 0, .int .i64 0, .int .i64 0, .int .i64 0, .int .i64 0, .int .i64 0]).drew.keep hbN; have nbl := BP.size; have tkA : Hid True := trivial; replace BD := (BP.alloc BP.size _).drew.trans (hbN.mono (BP.alloc BP.size _).drew.size); clear hbN))) | (go_at_call 52; have _t := tk1; clear _t tk1; refine (KVB _ (by first | with_reducible exact HRB.out _ BD | with_reducible exact HRB.out _ (BD.alloc BD.size _) | with_reducible exact HRB.out _ (BP.alloc BP.size _).drew)).mono ?_; rintro e wN ⟨rfl, hbN⟩; (first | (have _a := tkA; replace NB := NB.keep hbN; replace BD := BD.trans (hbN.mono BD.size); clear hbN) | (have BE : Below w2.heap.size w2 wN := (by with_reducible exact BD.trans (hbN.mono BD.size)); replace BD := BE; clear BE hbN) | (have NB := (Blk.new _ 87 #[.int .i64 0, .int .i64 0, .int .i64 0, .int .i64 0, .int .i64 0, .int .i64 0, .int .i64 0, .int .i64 0, .int .i64 0, .int .i64 0, .int .i64 0, .int .i64 0, .int .i64 0, .int .i64 0, .int .i64 0, .int .i64 0]).keep hbN; have nbl := BD.size; have tkA : Hid True := trivial; replace BD := (BD.alloc BD.size _).trans (hbN.mono (BD.alloc BD.size _).size); clear hbN) | (have NB := (Blk.new _ 87 #[.int .i64 0, .int .i64 0, .int .i64 0, .int .i64 0, .int .i64 0, .int .i64 0, .int .i64 0, .int .i64 0, .int .i64 0, .int .i64 0, .int .i64 0, .int .i64 0, .int .i64 0, .int .i64 0, .int .i64 0, .int .i64 0]).drew.keep hbN; have nbl := BP.size; have tkA : Hid True := trivial; replace BD := (BP.alloc BP.size _).drew.trans (hbN.mono (BP.alloc BP.size _).drew.size); clear hbN))) | (go_at_call 53; have _t := tk2; clear _t tk2; refine (KJ1 _).mono ?_; rintro e wN ⟨rfl, hbN⟩; (first | (have _a := tkA; replace NB := NB.keep hbN; replace BD := BD.trans (hbN.mono BD.size); clear hbN) | (have BE : Below w2.heap.size w2 wN := (by with_reducible exact BD.trans (hbN.mono BD.size)); replace BD := BE; clear BE hbN) | (have NB := (Blk.new _ 87 #[.int .i64 0, .int .i64 0, .int .i64 0, .int .i64 0, .int .i64 0, .int .i64 0, .int .i64 0, .int .i64 0, .int .i64 0, .int .i64 0, .int .i64 0, .int .i64 0, .int .i64 0, .int .i64 0, .int .i64 0, .int .i64 0]).keep hbN; have nbl := BD.size; have tkA : Hid True := trivial; replace BD := (BD.alloc BD.size _).trans (hbN.mono (BD.alloc BD.size _).size); clear hbN) | (have NB := (Blk.new _ 87 #[.int .i64 0, .int .i64 0, .int .i64 0, .int .i64 0, .int .i64 0, .int .i64 0, .int .i64 0, .int .i64 0, .int .i64 0, .int .i64 0, .int .i64 0, .int .i64 0, .int .i64 0, .int .i64 0, .int .i64 0, .int .i64 0]).drew.keep hbN; have nbl := BP.size; have tkA : Hid True := trivial; replace BD := (BP.alloc BP.size _).drew.trans (hbN.mono (BP.alloc BP.size _).drew.size); clear hbN)); (first | (have _a := tkA; have na := NB.at.1; have nf := NB.at.2; have nl := NB.lt) | have tkU : Hid True := trivial)))
        all_goals
          go_wp2
          go_meet
          case rel => first | (have _a := tkA; exact ⟨_, rfl, ((((((((((((((((BD.setCell (by first | omega | (simp; omega)) _).setCell (by first | omega | (simp; omega)) _).setCell (by first | omega | (simp; omega)) _).setCell (by first | omega | (simp; omega)) _).setCell (by first | omega | (simp; omega)) _).setCell (by first | omega | (simp; omega)) _).setCell (by first | omega | (simp; omega)) _).setCell (by first | omega | (simp; omega)) _).setCell (by first | omega | (simp; omega)) _).setCell (by first | omega | (simp; omega)) _).setCell (by first | omega | (simp; omega)) _).setCell (by first | omega | (simp; omega)) _).setCell (by first | omega | (simp; omega)) _).setCell (by first | omega | (simp; omega)) _).setCell (by first | omega | (simp; omega)) _).setCell (by first | omega | (simp; omega)) _), nbl, Blk.of_eq ((((((((((((((((NB.set 0 _).set 1 _).set 2 _).set 3 _).set 4 _).set 5 _).set 6 _).set 7 _).set 8 _).set 9 _).set 10 _).set 11 _).set 12 _).set 13 _).set 14 _).set 15 _) (by simp)⟩) | (have _u := tkU; exact ⟨_, rfl, BD.alloc BD.size _, BD.size, Blk.new _ _ _⟩)
      case rest =>
        obtain ⟨n9, rfl, B9, g9, N9⟩ := hcut
        obtain ⟨m3, em3⟩ : ∃ x : World, x = wc := ⟨_, rfl⟩
        subst em3
        replace XA2 := XA2.keep B9
        replace XB2 := XB2.keep B9
        replace Y2 := Y2.keep B9
        have N3 := N2.keep B9
        have B3 := B2.trans (B9.mono B2.size)
        have z3 := B9.size
        have l9 := N9.lt
        clear N2 B2 KJ1 KVA KVB hfl
        have SA : Blk ((m3.alloc (.cells #[.int .i64 a.xQ, .slice pa a.xViews.length ca] 36)).alloc (.cells #[.int .i64 b.xQ, .slice pb b.xViews.length cb] 36)) m3.heap.size 36 #[.int .i64 a.xQ, .slice pa a.xViews.length ca] := (Blk.new m3 _ _).alloc _
        have SB : Blk ((m3.alloc (.cells #[.int .i64 a.xQ, .slice pa a.xViews.length ca] 36)).alloc (.cells #[.int .i64 b.xQ, .slice pb b.xViews.length cb] 36)) (m3.heap.size + 1) 36 #[.int .i64 b.xQ, .slice pb b.xViews.length cb] := by simpa using Blk.new (m3.alloc (.cells #[.int .i64 a.xQ, .slice pa a.xViews.length ca] 36)) 36 #[.int .i64 b.xQ, .slice pb b.xViews.length cb]
        have XB3 := XB2.alloc (.cells #[.int .i64 a.xQ, .slice pa a.xViews.length ca] 36)
        have B4 : Below w.heap.size w ((m3.alloc (.cells #[.int .i64 a.xQ, .slice pa a.xViews.length ca] 36)).alloc (.cells #[.int .i64 b.xQ, .slice pb b.xViews.length cb] 36)) := (B3.alloc B3.size _).alloc (B3.alloc B3.size _).size _
        have q4 : Below m3.heap.size m3 ((m3.alloc (.cells #[.int .i64 a.xQ, .slice pa a.xViews.length ca] 36)).alloc (.cells #[.int .i64 b.xQ, .slice pb b.xViews.length cb] 36)) := ((Below.refl _ _).alloc (Nat.le_refl _) _).alloc ((Below.refl _ _).alloc (Nat.le_refl _) _).size _
        have K4 := KRow _ _ _ (RdMirrorS.one SA (ga.below B4)) (RdMirrorS.one SB (gb.below B4))
        clear KRow SA SB
        go_wp2_with (first | (refine wpList_load_blk rfl 36 _ rfl (w.heap.size + 1) rfl XA2 Tryz.underlying36 rfl (by kernel_rfl) ?_) | (refine wpList_load_blk rfl 36 _ rfl (w.heap.size + 2) rfl XB3 Tryz.underlying36 rfl (by kernel_rfl) ?_))
        refine K4.mono ?_
        rintro e m5 ⟨gx, cx, gy, cy, rfl, hX, hY, hgx, hgy, hb5⟩
        have q5 := q4.trans (hb5.mono q4.size)
        have lbs := N3.lts
        have N5 := N3.keep q5
        have Y5 := Y2.keep q5
        have V9 := N9.keep q5
        have B5 := B3.trans (q5.mono B3.size)
        have z4 := q4.size
        have z5 := q5.size
        have nx : gx ∉ g :: bs := fun hm => by rcases List.mem_cons.1 hm with h | h; omega; (have := lbs _ h; omega)
        have ny : gy ∉ g :: bs := fun hm => by rcases List.mem_cons.1 hm with h | h; omega; (have := lbs _ h; omega)
        clear XA2 XB2 XB3 Y2 N3 N9 B3 B4 q4 q5 hb5 K4 ga gb B9
        go_wp2_with fail
        refine (KD _ gx cx gy cy g bs N5 hX hY nx ny).mono ?_
        rintro e m6 ⟨rfl, bn, N6, hbn, O6⟩
        have hgg : ∀ y ∈ g :: bs, w.heap.size + 6 ≤ y := fun y hy => by rcases List.mem_cons.1 hy with h | h; omega; (exact hbs y h)
        have hgl : ∀ y ∈ g :: bs, y < w2.heap.size := fun y hy => by rcases List.mem_cons.1 hy with h | h; omega; (have := lbs y h; have := hbl y h; omega)
        have Y6 := Y5.off O6 (fun hm => by have := hgg _ hm; omega)
        have U9 := V9.off O6 (fun hm => by have := hgl _ hm; omega)
        have B6' := B5.trans (O6.toBelow B5.size (fun y hy => by have := hgg y hy; omega))
        have hbn2 : ∀ y ∈ bn, w.heap.size + 6 ≤ y := fun y hy => by rcases hbn y hy with h | h; (exact hbs y h); omega
        have z6' := O6.size
        have lg6 := N6.lt
        clear N5 Y5 V9 B5 hX hY nx ny KD O6 hbn hgg
        have Vn := Blk.new m6 87 #[.int .i64 0, .int .i64 0, .int .i64 0, .int .i64 0, .int .i64 0, .int .i64 0, .int .i64 0, .int .i64 0, .int .i64 0, .int .i64 0, .int .i64 0, .int .i64 0, .int .i64 0, .int .i64 0, .int .i64 0, .int .i64 0]
        go_wp2_with (first | (refine wpList_store_blk rfl 87 _ _ rfl m6.heap.size (cells1 fs) rfl rfl Vn (by rw [cells1_size, HFL.out]; rfl) (by rw [cells1_size, HFL.out]; kernel_rfl) (cells1_one _) ?_; intro m7 V7 O7; have lg := Vn) | (refine wpList_load_blk rfl 87 _ rfl m6.heap.size rfl V7 Tryz.underlying87 rfl (by rw [cells1_size, HFL.out]; kernel_rfl) ?_))
        clear lg
        have O7' : Off [m6.heap.size] m6 m7 := ((Off.refl _ _).alloc _).trans O7
        have N7 := N6.off O7' (by simp; omega) (fun y hy hm => by have := N6.lts y hy; simp at hm; omega)
        have Y7' := Y6.off O7' (by simp; omega)
        have T9 := U9.off O7' (by simp; have := U9.lt; omega)
        have B7' : Below w.heap.size w m7 := B6'.trans (O7'.toBelow B6'.size (by have := B6'.size; simp; omega))
        have z7' := O7'.size
        have lv7 := V7.lt
        have l9b := U9.lt
        clear Vn O7 O7' N6 Y6 U9 B6'
        refine (KJ2 _).mono ?_
        rintro e m8 ⟨rfl, hb8⟩
        have N8 := N7.keep hb8
        have Y8 := Y7'.keep hb8
        have T8 := T9.keep hb8
        have B8 := B7'.trans (hb8.mono B7'.size)
        have z8 := hb8.size
        clear N7 Y7' T9 V7 B7' hb8 KJ2
        have Wn := Blk.new m8 87 #[.int .i64 0, .int .i64 0, .int .i64 0, .int .i64 0, .int .i64 0, .int .i64 0, .int .i64 0, .int .i64 0, .int .i64 0, .int .i64 0, .int .i64 0, .int .i64 0, .int .i64 0, .int .i64 0, .int .i64 0, .int .i64 0]
        go_wp2_with (refine wpList_store_blk rfl 87 _ _ rfl m8.heap.size (cells1 fB) rfl rfl Wn (by rw [cells1_size, hfB]; rfl) (by rw [cells1_size, hfB]; kernel_rfl) (cells1_one _) ?_; intro m9 V9 O9)
        have O9' : Off [m8.heap.size] m8 m9 := ((Off.refl _ _).alloc _).trans O9
        have N9 := N8.off O9' (by simp; have := N8.lt; omega) (fun y hy hm => by have := N8.lts y hy; simp at hm; omega)
        have Y9 := Y8.off O9' (by simp; have := Y8.lt; omega)
        have T9 := T8.off O9' (by simp; have := T8.lt; omega)
        have B9 : Below w.heap.size w m9 := B8.trans (O9'.toBelow B8.size (by have := B8.size; simp; omega))
        have lv9 := V9.lt
        have lt8 := T8.lt
        have lg8 := N8.lt
        clear Wn O9 O9' N8 Y8 T8 B8
        generalize m8.heap.size = gv at *
        rw [← HC1.out] at T9
        have hlts := N9.lts
        obtain ⟨q0', q1', gH', d0', d1', d2', bt', b1', b2', Z9, T', U', H', -, -, -, k01, k02, k12, rfl⟩ := N9
        have Vd := V9.drew
        have Zd := Z9.drew
        have Yd := Y9.drew
        have Td := T9.drew
        have Bd := B9.drew
        have lgd : g < m9.drew.heap.size := Zd.lt
        have lgy : w.heap.size + 3 < m9.drew.heap.size := Yd.lt
        have HFR : Hid (∀ V, Off [w.heap.size + 3] m9.drew V → ∀ y ∈ bt' ++ (b1' ++ b2'), V.heap[y]? = m9.heap[y]?) := fun V O y hy => O.block y (by have h := hlts y hy; simpa using h) (by have := hbn2 y hy; simp; omega)
        have HSS : Hid (∀ V, Off [w.heap.size + 3] m9.drew V → V.rangeAt n9 0 (cells1 fA).toList ∧ V.rangeAt gv 0 (cells1 fB).toList ∧ (∀ o, V.cell? ⟨g, o, none⟩ = (#[.slice q0' x2.xTape.length d0', .slice q1' x2.xUsed.length d1', .int .i64 x2.xSent, .slice (some ⟨gH', 0, none⟩) x2.xHeard.length d2', .int .i64 x2.xCheat.xWho, .int .i64 x2.xCheat.xAt, .int .i64 x2.xCheat.xBy, .bool x2.xCheat.xCry, .bool x2.xQuarrel.xSome, .int .i64 x2.xQuarrel.xFrom, .int .i64 x2.xQuarrel.xCheck, .int .i64 x2.xQuarrel.xTo, .int .i64 x2.xQuarrel.xTold, .int .i64 x2.xQuarrel.xHeard, .int .i64 x2.xQuarrel.xOther, .int .i64 x2.xQuarrel.xVowed] : Array Value)[o]?)) := fun V O => ⟨(Td.off O (by simp; omega)).range, (Vd.off O (by simp; omega)).range, (Zd.off O (by simp; omega)).at.1⟩
        clear V9 Z9 Y9 T9 B9 Vd Zd Td
        have KX := fun W => impl_mixOf 256 fC x2 q0' q1' gH' d0' d1' d2' W hfC
        go_wp2_with fail
        refine wp_region_held (S := fun V => V.rangeAt n9 0 (cells1 fA).toList ∧ V.rangeAt gv 0 (cells1 fB).toList ∧ (∀ o, V.cell? ⟨g, o, none⟩ = (#[.slice q0' x2.xTape.length d0', .slice q1' x2.xUsed.length d1', .int .i64 x2.xSent, .slice (some ⟨gH', 0, none⟩) x2.xHeard.length d2', .int .i64 x2.xCheat.xWho, .int .i64 x2.xCheat.xAt, .int .i64 x2.xCheat.xBy, .bool x2.xCheat.xCry, .bool x2.xQuarrel.xSome, .int .i64 x2.xQuarrel.xFrom, .int .i64 x2.xQuarrel.xCheck, .int .i64 x2.xQuarrel.xTo, .int .i64 x2.xQuarrel.xTold, .int .i64 x2.xQuarrel.xHeard, .int .i64 x2.xQuarrel.xOther, .int .i64 x2.xQuarrel.xVowed] : Array Value)[o]?)) (by kernel_rfl) ?_
        try (change wpAnyH _ _ _ _ _ _ _ _ (World.drew _))
        have hS := HSS.out _ (Off.refl _ _)
        refine wpAnyH_take (i := 0) (v := .agg (cells1 fA)) rfl (by kernel_rfl) (by kernel_rfl) (by kernel_rfl) (fun _ _ _ h => h) (yieldsIf_load_mid (by rfl) _ _ rfl n9 0 rfl (cells1 fA).toList _ (fun _ h => h.1) Tryz.underlying87 rfl (by rw [Array.length_toList, cells1_size, hfA]; kernel_rfl)) hS ?_
        (try simp only [List.getElem_toArray]); (try simp only [List.getElem_cons_succ]); (try simp only [List.getElem_cons_zero]); (try simp only [Act.put]); (try simp only [List.setIfInBounds_toArray]); (try simp only [List.set_cons_succ]); (try simp only [List.set_cons_zero])
        refine wpAnyH_take (i := 1) (v := .agg (cells1 fB)) rfl (by kernel_rfl) (by kernel_rfl) (by kernel_rfl) (fun _ _ _ h => h) (yieldsIf_load_mid (by rfl) _ _ rfl gv 0 rfl (cells1 fB).toList _ (fun _ h => h.2.1) Tryz.underlying87 rfl (by rw [Array.length_toList, cells1_size, hfB]; kernel_rfl)) hS ?_
        (try simp only [List.getElem_toArray]); (try simp only [List.getElem_cons_succ]); (try simp only [List.getElem_cons_zero]); (try simp only [Act.put]); (try simp only [List.setIfInBounds_toArray]); (try simp only [List.set_cons_succ]); (try simp only [List.set_cons_zero])
        refine wpAnyH_take (i := 3) (v := .agg #[.slice q0' x2.xTape.length d0', .slice q1' x2.xUsed.length d1', .int .i64 x2.xSent, .slice (some ⟨gH', 0, none⟩) x2.xHeard.length d2', .int .i64 x2.xCheat.xWho, .int .i64 x2.xCheat.xAt, .int .i64 x2.xCheat.xBy, .bool x2.xCheat.xCry, .bool x2.xQuarrel.xSome, .int .i64 x2.xQuarrel.xFrom, .int .i64 x2.xQuarrel.xCheck, .int .i64 x2.xQuarrel.xTo, .int .i64 x2.xQuarrel.xTold, .int .i64 x2.xQuarrel.xHeard, .int .i64 x2.xQuarrel.xOther, .int .i64 x2.xQuarrel.xVowed]) rfl (by kernel_rfl) (by kernel_rfl) (by kernel_rfl) (fun _ _ _ h => h) (yieldsIf_load_mid (by rfl) _ _ rfl g 0 rfl (#[.slice q0' x2.xTape.length d0', .slice q1' x2.xUsed.length d1', .int .i64 x2.xSent, .slice (some ⟨gH', 0, none⟩) x2.xHeard.length d2', .int .i64 x2.xCheat.xWho, .int .i64 x2.xCheat.xAt, .int .i64 x2.xCheat.xBy, .bool x2.xCheat.xCry, .bool x2.xQuarrel.xSome, .int .i64 x2.xQuarrel.xFrom, .int .i64 x2.xQuarrel.xCheck, .int .i64 x2.xQuarrel.xTo, .int .i64 x2.xQuarrel.xTold, .int .i64 x2.xQuarrel.xHeard, .int .i64 x2.xQuarrel.xOther, .int .i64 x2.xQuarrel.xVowed] : Array Value).toList _ (fun V h => fun j v hv => by rw [Nat.zero_add, h.2.2 j]; simpa using hv) Tryz.underlying41 rfl (by kernel_rfl)) hS ?_
        (try simp only [List.getElem_toArray]); (try simp only [List.getElem_cons_succ]); (try simp only [List.getElem_cons_zero]); (try simp only [Act.put]); (try simp only [List.setIfInBounds_toArray]); (try simp only [List.set_cons_succ]); (try simp only [List.set_cons_zero])
        refine wpAnyH_ready (rs := [2]) (by kernel_rfl) (by simp) ?_
        refine AllReadyH.cons (o := _) rfl (fun K hK => ?_) AllReadyH.nil
        rw [if_pos (by rfl)]
        go_simp
        go_at_call 53
        refine (KJ3 _).mono ?_
        rintro e p1 ⟨rfl, hp1⟩
        have Y10 := Yd.keep hp1
        have B10 := Bd.trans (hp1.mono Bd.size)
        dsimp only
        refine hK.out _ _ (HSS.out _ (Off.ofBelow hp1)) (fun hS => ?_)
        clear hK K
        (try simp only [List.getElem_toArray]); (try simp only [List.getElem_cons_succ]); (try simp only [List.getElem_cons_zero]); (try simp only [Act.put]); (try simp only [List.setIfInBounds_toArray]); (try simp only [List.set_cons_succ]); (try simp only [List.set_cons_zero])
        refine wpAnyH_ready (rs := [4]) (by kernel_rfl) (by simp) ?_
        refine AllReadyH.cons (o := _) rfl (fun K hK => ?_) AllReadyH.nil
        rw [if_pos (by rfl)]
        go_simp
        go_at_call 57
        refine (KX _).mono ?_
        rintro e p2 ⟨p, c, rfl, bm, hM, hbm, hp2⟩
        have Y11 := Y10.keep hp2
        have B11 := B10.trans (hp2.mono B10.size)
        have hp12 := hp1.trans (hp2.mono hp1.size)
        dsimp only
        refine hK.out _ _ (HSS.out _ (Off.ofBelow hp12)) (fun hS => ?_)
        clear hK K
        (try simp only [List.getElem_toArray]); (try simp only [List.getElem_cons_succ]); (try simp only [List.getElem_cons_zero]); (try simp only [Act.put]); (try simp only [List.setIfInBounds_toArray]); (try simp only [List.set_cons_succ]); (try simp only [List.set_cons_zero])
        refine wpAnyH_ready (rs := [5]) (by kernel_rfl) (by simp) ?_
        refine AllReadyH.cons (o := _) rfl (fun K hK => ?_) AllReadyH.nil
        refine step_store_blk rfl 43 _ _ rfl (w.heap.size + 3) (#[.int .i64 0, .int .i64 (mOf x2.xQuarrel.xSome 256 fC).xQ, .slice p (mOf x2.xQuarrel.xSome 256 fC).xViews.length c, .slice q0' x2.xTape.length d0', .slice q1' x2.xUsed.length d1', .int .i64 x2.xSent, .slice (some ⟨gH', 0, none⟩) x2.xHeard.length d2', .int .i64 x2.xCheat.xWho, .int .i64 x2.xCheat.xAt, .int .i64 x2.xCheat.xBy, .bool x2.xCheat.xCry, .bool x2.xQuarrel.xSome, .int .i64 x2.xQuarrel.xFrom, .int .i64 x2.xQuarrel.xCheck, .int .i64 x2.xQuarrel.xTo, .int .i64 x2.xQuarrel.xTold, .int .i64 x2.xQuarrel.xHeard, .int .i64 x2.xQuarrel.xOther, .int .i64 x2.xQuarrel.xVowed]) rfl rfl Y11 rfl (by kernel_rfl) (by kernel_rfl) ?_
        intro p3 Y12 O12
        refine hK.out _ _ (HSS.out _ ((Off.ofBelow hp12).trans O12)) (fun hS => ?_)
        clear hK K
        (try simp only [List.getElem_toArray]); (try simp only [List.getElem_cons_succ]); (try simp only [List.getElem_cons_zero]); (try simp only [Act.put]); (try simp only [List.setIfInBounds_toArray]); (try simp only [List.set_cons_succ]); (try simp only [List.set_cons_zero])
        refine wpAnyH_done (by kernel_rfl) ?_ _
        clear hS
        try go_wp2
        have hbm2 : ∀ y ∈ bm, m9.heap.size ≤ y := fun y hy => by have := hbm y hy; have := hp1.size; simp at this; omega
        exact bodyPost_ret (v := .agg (#[.int .i64 0, .int .i64 (mOf x2.xQuarrel.xSome 256 fC).xQ, .slice p (mOf x2.xQuarrel.xSome 256 fC).xViews.length c, .slice q0' x2.xTape.length d0', .slice q1' x2.xUsed.length d1', .int .i64 x2.xSent, .slice (some ⟨gH', 0, none⟩) x2.xHeard.length d2', .int .i64 x2.xCheat.xWho, .int .i64 x2.xCheat.xAt, .int .i64 x2.xCheat.xBy, .bool x2.xCheat.xCry, .bool x2.xQuarrel.xSome, .int .i64 x2.xQuarrel.xFrom, .int .i64 x2.xQuarrel.xCheck, .int .i64 x2.xQuarrel.xTo, .int .i64 x2.xQuarrel.xTold, .int .i64 x2.xQuarrel.xHeard, .int .i64 x2.xQuarrel.xOther, .int .i64 x2.xQuarrel.xVowed])) (results_blk Tryz.results20 rfl Y12 Tryz.underlying43 rfl (by kernel_rfl)) rfl (by rw [HRES.out]; exact OutMix.of 0 T' U' H' k01 k02 k12 (fun y hy => ⟨by have := hbn2 y hy; omega, HFR.out _ ((Off.ofBelow hp12).trans O12) y hy⟩) (hM.off O12 (fun y hy hm => by have := hbm2 y hy; simp at hm lgy; omega)) (fun y hy => ⟨by have := hbm2 y hy; simp at lgy; omega, fun hm => by have := hbm2 y hy; have := hlts y hm; omega⟩) (B11.trans (O12.toBelow B11.size (by simp))))
    · have e256 : (a.xQ != 256) = true := by simpa using hq
      rw [xorC_form hc hq, xorR_bad (by decide)]
      rw [hc] at K
      clear hc hq KC ra0 rb0 ga gb
      go_enter Tryz.func20, Tryz.ntmps20
      go_wp2_with (first | (refine wpList_load_blk rfl 41 _ rfl w.heap.size rfl X0 Tryz.underlying41 rfl hR ?_) | (refine wpList_load_blk rfl 36 _ rfl (w.heap.size + 1) rfl XA Tryz.underlying36 rfl (by kernel_rfl) ?_) | (refine wpList_load_blk rfl 36 _ rfl (w.heap.size + 2) rfl XB Tryz.underlying36 rfl (by kernel_rfl) ?_))
      refine K.mono ?_
      rintro e w7 ⟨rfl, hb7⟩
      have XA7 := XA6.keep hb7
      have Y7 := Y6.keep hb7
      have B7 := B6.trans (hb7.mono B6.size)
      clear X0 XA XB X6 XA6 XB6 Y6 hb7 K
      have xq := XA7.at.1
      have xl := XA7.lt
      go_wp2_with (refine wpList_store_blk rfl 43 _ _ rfl (w.heap.size + 3) (#[.int .i64 (1), .int .i64 0, .slice none 0 0, .slice none 0 0, .slice none 0 0, .int .i64 0, .slice none 0 0, .int .i64 0, .int .i64 0, .int .i64 0, .bool false, .bool false, .int .i64 0, .int .i64 0, .int .i64 0, .int .i64 0, .int .i64 0, .int .i64 0, .int .i64 0]) rfl rfl Y7 rfl (by kernel_rfl) (by kernel_rfl) ?_; intro w9 Y9 O9)
      exact bodyPost_ret (v := .agg (#[.int .i64 (1), .int .i64 0, .slice none 0 0, .slice none 0 0, .slice none 0 0, .int .i64 0, .slice none 0 0, .int .i64 0, .int .i64 0, .int .i64 0, .bool false, .bool false, .int .i64 0, .int .i64 0, .int .i64 0, .int .i64 0, .int .i64 0, .int .i64 0, .int .i64 0])) (results_blk Tryz.results20 rfl Y9 Tryz.underlying43 rfl (by kernel_rfl)) rfl (OutMix.bad (1) (B7.trans (O9.toBelow B7.size (by simp))))
  · have hne : (dotCS x [a] [b] != 0) = true := by simpa using hc
    rw [xorC_bad hc, xorR_bad hc]
    generalize dotCS x [a] [b] = r at *
    clear hc KC ra0 rb0 ga gb
    go_enter Tryz.func20, Tryz.ntmps20
    go_wp2_with (first | (refine wpList_load_blk rfl 41 _ rfl w.heap.size rfl X0 Tryz.underlying41 rfl hR ?_) | (refine wpList_load_blk rfl 36 _ rfl (w.heap.size + 1) rfl XA Tryz.underlying36 rfl (by kernel_rfl) ?_) | (refine wpList_load_blk rfl 36 _ rfl (w.heap.size + 2) rfl XB Tryz.underlying36 rfl (by kernel_rfl) ?_))
    refine K.mono ?_
    rintro e w7 ⟨rfl, hb7⟩
    have Y7 := Y6.keep hb7
    have B7 := B6.trans (hb7.mono B6.size)
    clear X0 XA XB X6 XA6 XB6 Y6 hb7 K
    go_wp2_with (refine wpList_store_blk rfl 43 _ _ rfl (w.heap.size + 3) (#[.int .i64 (r), .int .i64 0, .slice none 0 0, .slice none 0 0, .slice none 0 0, .int .i64 0, .slice none 0 0, .int .i64 0, .int .i64 0, .int .i64 0, .bool false, .bool false, .int .i64 0, .int .i64 0, .int .i64 0, .int .i64 0, .int .i64 0, .int .i64 0, .int .i64 0]) rfl rfl Y7 rfl (by kernel_rfl) (by kernel_rfl) ?_; intro w9 Y9 O9)
    exact bodyPost_ret (v := .agg (#[.int .i64 (r), .int .i64 0, .slice none 0 0, .slice none 0 0, .slice none 0 0, .int .i64 0, .slice none 0 0, .int .i64 0, .int .i64 0, .int .i64 0, .bool false, .bool false, .int .i64 0, .int .i64 0, .int .i64 0, .int .i64 0, .int .i64 0, .int .i64 0, .int .i64 0])) (results_blk Tryz.results20 rfl Y9 Tryz.underlying43 rfl (by kernel_rfl)) rfl (OutMix.bad (r) (B7.trans (O9.toBelow B7.size (by simp))))
end Go.Proofs.YtbmemdgeohnpnalGreat
