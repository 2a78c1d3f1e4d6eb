/-
  Two bits in the ring in the program: XorBits.
-/
import Derived.Test.YtepobckhfodngalGreatXoP
import Derived.Test.YtepobckhfodngalGreatNX
import Derived.Deep.RegionHeld3
import Derived.Deep.Cut
namespace Go.Proofs.YtepobckhfodngalGreat
open Go.ChangeShapes Go.WideShapes Go.ChangeAt Go.RowKit
set_option linter.unusedVariables false
set_option maxHeartbeats 16000000 in
set_option maxRecDepth 100000 in
theorem impl_XorBits (vv : Value) (x : MNet) (va : Value) (a : MMirror) (vb : Value) (b : MMirror) (w : World) (hv : RdNet w vv x) (hx : Fit x) (ra : RdMirror w va a) (rb : RdMirror w vb b) :
    Calls Tryz.prog 20 #[vv, va, vb] w fun e w' => OutMix w w' (xorR (xorC x a b) x a b) e := by
  have KF := fun W u z (hb : Below w.heap.size w W) (s : RdMirrorS W u [a]) (t : RdMirrorS W z [b]) => impl_dotFault vv x u z [a] [b] W (hv.below hb) s t
  simp only [dotCI_one] at KF
  have KC := fun W (hb : Below w.heap.size w W) => impl_copyOfNetT vv x W (hv.below hb) hx
  have ra0 := ra
  have rb0 := rb
  obtain ⟨cs, rfl, R⟩ := hv.row
  obtain ⟨pa, ca, rfl, ga⟩ := ra
  obtain ⟨pb, cb, rfl, gb⟩ := rb
  have hR := R.hi (P := Tryz.prog) (T := 41) (by kernel_rfl)
  have X0 : Blk ((((w.alloc (.cells cs 41)).alloc (.cells #[.int .i64 a.xQ, .slice pa a.xViews.length ca] 36)).alloc (.cells #[.int .i64 b.xQ, .slice pb b.xViews.length cb] 36)).alloc (.cells #[.int .i64 0, .int .i64 0, .slice none 0 0, .slice none 0 0, .slice none 0 0, .int .i64 0, .slice none 0 0, .int .i64 0, .int .i64 0, .int .i64 0, .bool false, .bool false, .int .i64 0, .int .i64 0, .int .i64 0, .int .i64 0, .int .i64 0, .int .i64 0, .int .i64 0] 43)) w.heap.size 41 cs := (((Blk.new w _ _).alloc _).alloc _).alloc _
  have XA : Blk ((((w.alloc (.cells cs 41)).alloc (.cells #[.int .i64 a.xQ, .slice pa a.xViews.length ca] 36)).alloc (.cells #[.int .i64 b.xQ, .slice pb b.xViews.length cb] 36)).alloc (.cells #[.int .i64 0, .int .i64 0, .slice none 0 0, .slice none 0 0, .slice none 0 0, .int .i64 0, .slice none 0 0, .int .i64 0, .int .i64 0, .int .i64 0, .bool false, .bool false, .int .i64 0, .int .i64 0, .int .i64 0, .int .i64 0, .int .i64 0, .int .i64 0, .int .i64 0] 43)) (w.heap.size + 1) 36 #[.int .i64 a.xQ, .slice pa a.xViews.length ca] := by simpa using ((Blk.new (w.alloc (.cells cs 41)) 36 #[.int .i64 a.xQ, .slice pa a.xViews.length ca]).alloc (.cells #[.int .i64 b.xQ, .slice pb b.xViews.length cb] 36)).alloc (.cells #[.int .i64 0, .int .i64 0, .slice none 0 0, .slice none 0 0, .slice none 0 0, .int .i64 0, .slice none 0 0, .int .i64 0, .int .i64 0, .int .i64 0, .bool false, .bool false, .int .i64 0, .int .i64 0, .int .i64 0, .int .i64 0, .int .i64 0, .int .i64 0, .int .i64 0] 43)
  have XB : Blk (((((w.alloc (.cells cs 41)).alloc (.cells #[.int .i64 a.xQ, .slice pa a.xViews.length ca] 36)).alloc (.cells #[.int .i64 b.xQ, .slice pb b.xViews.length cb] 36)).alloc (.cells #[.int .i64 0, .int .i64 0, .slice none 0 0, .slice none 0 0, .slice none 0 0, .int .i64 0, .slice none 0 0, .int .i64 0, .int .i64 0, .int .i64 0, .bool false, .bool false, .int .i64 0, .int .i64 0, .int .i64 0, .int .i64 0, .int .i64 0, .int .i64 0, .int .i64 0] 43)).alloc (.cells #[.int .i64 a.xQ, .slice pa a.xViews.length ca] 36)) (w.heap.size + 2) 36 #[.int .i64 b.xQ, .slice pb b.xViews.length cb] := by simpa using ((Blk.new ((w.alloc (.cells cs 41)).alloc (.cells #[.int .i64 a.xQ, .slice pa a.xViews.length ca] 36)) 36 #[.int .i64 b.xQ, .slice pb b.xViews.length cb]).alloc (.cells #[.int .i64 0, .int .i64 0, .slice none 0 0, .slice none 0 0, .slice none 0 0, .int .i64 0, .slice none 0 0, .int .i64 0, .int .i64 0, .int .i64 0, .bool false, .bool false, .int .i64 0, .int .i64 0, .int .i64 0, .int .i64 0, .int .i64 0, .int .i64 0, .int .i64 0] 43)).alloc (.cells #[.int .i64 a.xQ, .slice pa a.xViews.length ca] 36)
  have X6 : Blk ((((((w.alloc (.cells cs 41)).alloc (.cells #[.int .i64 a.xQ, .slice pa a.xViews.length ca] 36)).alloc (.cells #[.int .i64 b.xQ, .slice pb b.xViews.length cb] 36)).alloc (.cells #[.int .i64 0, .int .i64 0, .slice none 0 0, .slice none 0 0, .slice none 0 0, .int .i64 0, .slice none 0 0, .int .i64 0, .int .i64 0, .int .i64 0, .bool false, .bool false, .int .i64 0, .int .i64 0, .int .i64 0, .int .i64 0, .int .i64 0, .int .i64 0, .int .i64 0] 43)).alloc (.cells #[.int .i64 a.xQ, .slice pa a.xViews.length ca] 36)).alloc (.cells #[.int .i64 b.xQ, .slice pb b.xViews.length cb] 36)) w.heap.size 41 cs := (X0.alloc _).alloc _
  have XA6 : Blk ((((((w.alloc (.cells cs 41)).alloc (.cells #[.int .i64 a.xQ, .slice pa a.xViews.length ca] 36)).alloc (.cells #[.int .i64 b.xQ, .slice pb b.xViews.length cb] 36)).alloc (.cells #[.int .i64 0, .int .i64 0, .slice none 0 0, .slice none 0 0, .slice none 0 0, .int .i64 0, .slice none 0 0, .int .i64 0, .int .i64 0, .int .i64 0, .bool false, .bool false, .int .i64 0, .int .i64 0, .int .i64 0, .int .i64 0, .int .i64 0, .int .i64 0, .int .i64 0] 43)).alloc (.cells #[.int .i64 a.xQ, .slice pa a.xViews.length ca] 36)).alloc (.cells #[.int .i64 b.xQ, .slice pb b.xViews.length cb] 36)) (w.heap.size + 1) 36 #[.int .i64 a.xQ, .slice pa a.xViews.length ca] := (XA.alloc _).alloc _
  have XB6 : Blk ((((((w.alloc (.cells cs 41)).alloc (.cells #[.int .i64 a.xQ, .slice pa a.xViews.length ca] 36)).alloc (.cells #[.int .i64 b.xQ, .slice pb b.xViews.length cb] 36)).alloc (.cells #[.int .i64 0, .int .i64 0, .slice none 0 0, .slice none 0 0, .slice none 0 0, .int .i64 0, .slice none 0 0, .int .i64 0, .int .i64 0, .int .i64 0, .bool false, .bool false, .int .i64 0, .int .i64 0, .int .i64 0, .int .i64 0, .int .i64 0, .int .i64 0, .int .i64 0] 43)).alloc (.cells #[.int .i64 a.xQ, .slice pa a.xViews.length ca] 36)).alloc (.cells #[.int .i64 b.xQ, .slice pb b.xViews.length cb] 36)) (w.heap.size + 2) 36 #[.int .i64 b.xQ, .slice pb b.xViews.length cb] := XB.alloc _
  have Y6 : Blk ((((((w.alloc (.cells cs 41)).alloc (.cells #[.int .i64 a.xQ, .slice pa a.xViews.length ca] 36)).alloc (.cells #[.int .i64 b.xQ, .slice pb b.xViews.length cb] 36)).alloc (.cells #[.int .i64 0, .int .i64 0, .slice none 0 0, .slice none 0 0, .slice none 0 0, .int .i64 0, .slice none 0 0, .int .i64 0, .int .i64 0, .int .i64 0, .bool false, .bool false, .int .i64 0, .int .i64 0, .int .i64 0, .int .i64 0, .int .i64 0, .int .i64 0, .int .i64 0] 43)).alloc (.cells #[.int .i64 a.xQ, .slice pa a.xViews.length ca] 36)).alloc (.cells #[.int .i64 b.xQ, .slice pb b.xViews.length cb] 36)) (w.heap.size + 3) 43 #[.int .i64 0, .int .i64 0, .slice none 0 0, .slice none 0 0, .slice none 0 0, .int .i64 0, .slice none 0 0, .int .i64 0, .int .i64 0, .int .i64 0, .bool false, .bool false, .int .i64 0, .int .i64 0, .int .i64 0, .int .i64 0, .int .i64 0, .int .i64 0, .int .i64 0] := by simpa using ((Blk.new (((w.alloc (.cells cs 41)).alloc (.cells #[.int .i64 a.xQ, .slice pa a.xViews.length ca] 36)).alloc (.cells #[.int .i64 b.xQ, .slice pb b.xViews.length cb] 36)) 43 #[.int .i64 0, .int .i64 0, .slice none 0 0, .slice none 0 0, .slice none 0 0, .int .i64 0, .slice none 0 0, .int .i64 0, .int .i64 0, .int .i64 0, .bool false, .bool false, .int .i64 0, .int .i64 0, .int .i64 0, .int .i64 0, .int .i64 0, .int .i64 0, .int .i64 0]).alloc (.cells #[.int .i64 a.xQ, .slice pa a.xViews.length ca] 36)).alloc (.cells #[.int .i64 b.xQ, .slice pb b.xViews.length cb] 36)
  have SA : Blk ((((((w.alloc (.cells cs 41)).alloc (.cells #[.int .i64 a.xQ, .slice pa a.xViews.length ca] 36)).alloc (.cells #[.int .i64 b.xQ, .slice pb b.xViews.length cb] 36)).alloc (.cells #[.int .i64 0, .int .i64 0, .slice none 0 0, .slice none 0 0, .slice none 0 0, .int .i64 0, .slice none 0 0, .int .i64 0, .int .i64 0, .int .i64 0, .bool false, .bool false, .int .i64 0, .int .i64 0, .int .i64 0, .int .i64 0, .int .i64 0, .int .i64 0, .int .i64 0] 43)).alloc (.cells #[.int .i64 a.xQ, .slice pa a.xViews.length ca] 36)).alloc (.cells #[.int .i64 b.xQ, .slice pb b.xViews.length cb] 36)) (w.heap.size + 4) 36 #[.int .i64 a.xQ, .slice pa a.xViews.length ca] := by simpa using (Blk.new ((((w.alloc (.cells cs 41)).alloc (.cells #[.int .i64 a.xQ, .slice pa a.xViews.length ca] 36)).alloc (.cells #[.int .i64 b.xQ, .slice pb b.xViews.length cb] 36)).alloc (.cells #[.int .i64 0, .int .i64 0, .slice none 0 0, .slice none 0 0, .slice none 0 0, .int .i64 0, .slice none 0 0, .int .i64 0, .int .i64 0, .int .i64 0, .bool false, .bool false, .int .i64 0, .int .i64 0, .int .i64 0, .int .i64 0, .int .i64 0, .int .i64 0, .int .i64 0] 43)) 36 #[.int .i64 a.xQ, .slice pa a.xViews.length ca]).alloc (.cells #[.int .i64 b.xQ, .slice pb b.xViews.length cb] 36)
  have SB : Blk ((((((w.alloc (.cells cs 41)).alloc (.cells #[.int .i64 a.xQ, .slice pa a.xViews.length ca] 36)).alloc (.cells #[.int .i64 b.xQ, .slice pb b.xViews.length cb] 36)).alloc (.cells #[.int .i64 0, .int .i64 0, .slice none 0 0, .slice none 0 0, .slice none 0 0, .int .i64 0, .slice none 0 0, .int .i64 0, .int .i64 0, .int .i64 0, .bool false, .bool false, .int .i64 0, .int .i64 0, .int .i64 0, .int .i64 0, .int .i64 0, .int .i64 0, .int .i64 0] 43)).alloc (.cells #[.int .i64 a.xQ, .slice pa a.xViews.length ca] 36)).alloc (.cells #[.int .i64 b.xQ, .slice pb b.xViews.length cb] 36)) (w.heap.size + 5) 36 #[.int .i64 b.xQ, .slice pb b.xViews.length cb] := by simpa using Blk.new (((((w.alloc (.cells cs 41)).alloc (.cells #[.int .i64 a.xQ, .slice pa a.xViews.length ca] 36)).alloc (.cells #[.int .i64 b.xQ, .slice pb b.xViews.length cb] 36)).alloc (.cells #[.int .i64 0, .int .i64 0, .slice none 0 0, .slice none 0 0, .slice none 0 0, .int .i64 0, .slice none 0 0, .int .i64 0, .int .i64 0, .int .i64 0, .bool false, .bool false, .int .i64 0, .int .i64 0, .int .i64 0, .int .i64 0, .int .i64 0, .int .i64 0, .int .i64 0] 43)).alloc (.cells #[.int .i64 a.xQ, .slice pa a.xViews.length ca] 36)) 36 #[.int .i64 b.xQ, .slice pb b.xViews.length cb]
  have B6 : Below w.heap.size w ((((((w.alloc (.cells cs 41)).alloc (.cells #[.int .i64 a.xQ, .slice pa a.xViews.length ca] 36)).alloc (.cells #[.int .i64 b.xQ, .slice pb b.xViews.length cb] 36)).alloc (.cells #[.int .i64 0, .int .i64 0, .slice none 0 0, .slice none 0 0, .slice none 0 0, .int .i64 0, .slice none 0 0, .int .i64 0, .int .i64 0, .int .i64 0, .bool false, .bool false, .int .i64 0, .int .i64 0, .int .i64 0, .int .i64 0, .int .i64 0, .int .i64 0, .int .i64 0] 43)).alloc (.cells #[.int .i64 a.xQ, .slice pa a.xViews.length ca] 36)).alloc (.cells #[.int .i64 b.xQ, .slice pb b.xViews.length cb] 36)) := (by repeat (first | exact Below.refl _ _ | refine Below.drew ?_ | refine below_drewN ?_ _ | refine Below.setCell ?_ (by first | omega | (simp; done) | (simp; omega)) _ | refine Below.alloc ?_ (by first | omega | (simp; done) | (simp; omega)) _))
  have z6 : ((((((w.alloc (.cells cs 41)).alloc (.cells #[.int .i64 a.xQ, .slice pa a.xViews.length ca] 36)).alloc (.cells #[.int .i64 b.xQ, .slice pb b.xViews.length cb] 36)).alloc (.cells #[.int .i64 0, .int .i64 0, .slice none 0 0, .slice none 0 0, .slice none 0 0, .int .i64 0, .slice none 0 0, .int .i64 0, .int .i64 0, .int .i64 0, .bool false, .bool false, .int .i64 0, .int .i64 0, .int .i64 0, .int .i64 0, .int .i64 0, .int .i64 0, .int .i64 0] 43)).alloc (.cells #[.int .i64 a.xQ, .slice pa a.xViews.length ca] 36)).alloc (.cells #[.int .i64 b.xQ, .slice pb b.xViews.length cb] 36)).heap.size = w.heap.size + 6 := by simp
  have K := KF _ _ _ B6 (RdMirrorS.one SA (ga.below B6)) (RdMirrorS.one SB (gb.below B6))
  clear KF SA SB hv
  by_cases hc : dotCS x [a] [b] = 0
  · by_cases hq : a.xQ = 256
    · obtain ⟨zn, hqs, RO⟩ := dotCS_zero hc
      have NB := NetB.of zn hx
      have hH0 : 0 < x.xHeard.length := by rw [NB.h4]; omega
      have eQ : (([a] : List MMirror).getD 0 zM).xQ = 256 := hq
      rw [eQ] at RO
      have RO1 : RowOk 256 1 [a] [b] := RO
      have sA : Sq a.xViews := RO1.sx 0 (by omega)
      have sB : Sq b.xViews := RO1.sy 0 (by omega)
      have bA : ∀ i j, 0 ≤ pt a.xViews i j ∧ pt a.xViews i j < 256 := RO1.bx 0
      have bB : ∀ i j, 0 ≤ pt b.xViews i j ∧ pt b.xViews i j < 256 := RO1.by' 0
      have KVA := fun W (h : RdMirror W (.agg #[.int .i64 a.xQ, .slice pa a.xViews.length ca]) a) => impl_shareOf (.agg #[.int .i64 a.xQ, .slice pa a.xViews.length ca]) a W h sA
      have KVB := fun W (h : RdMirror W (.agg #[.int .i64 b.xQ, .slice pb b.xViews.length cb]) b) => impl_shareOf (.agg #[.int .i64 b.xQ, .slice pb b.xViews.length cb]) b W h sB
      rw [show a.xQ :: a.xViews.flatten = 256 :: a.xViews.flatten by rw [hq]] at KVA
      have KXR := fun W b0 bs hN => impl_xor b.xQ a.xViews.flatten b.xViews.flatten b0 x bs 0 W hN NB (by omega) (sh_ok16 sA bA) (sh_ok16 sB bB)
      have eX : prX 256 a.xViews.flatten b.xViews.flatten x = xoX x a b := by unfold prX xoX; rw [sh_flat sA, sh_flat sB]; rfl
      have eP : prF 256 a.xViews.flatten b.xViews.flatten x = dotS 256 (vsOf [a]) (vsOf [b]) 1 x := by unfold prF; rw [sh_flat sA, sh_flat sB]; rfl
      have eF : xrF a.xViews.flatten b.xViews.flatten x = xoF x a b := by unfold xrF xoF xoV xoA xoB; rw [eP]; unfold subF addF; rw [sh_flat (opRows_sq _ _ _ _), sh_flat (opRows_sq _ _ _ _), sh_flat sA, sh_flat sB]
      have HRES : Hid (xorR (xorC x a b) x a b = ⟨0, mOf (prX 256 a.xViews.flatten b.xViews.flatten x).xQuarrel.xSome 256 (xrF a.xViews.flatten b.xViews.flatten x), prX 256 a.xViews.flatten b.xViews.flatten x⟩) := by show _ = _; rw [xorC_ok hc hq, xorR_ok, eX, eF]
      have HRL : Hid ((xrF a.xViews.flatten b.xViews.flatten x).length = 16) := (xrF_ok _ _ _).1
      have HH2 : Hid (0 < (prX 256 a.xViews.flatten b.xViews.flatten x).xHeard.length) := by have := (prF_ok (.inr rfl) a.xViews.flatten b.xViews.flatten NB).1.h4; show _ < _; omega
      rw [hc] at K
      clear RO RO1 eQ hqs zn NB eX eP eF hc
      generalize prX 256 a.xViews.flatten b.xViews.flatten x = x2 at *
      generalize xrF a.xViews.flatten b.xViews.flatten x = rs at *
      generalize Value.agg (cells1 (256 :: a.xViews.flatten)) = gA at *
      generalize Value.agg (cells1 (b.xQ :: b.xViews.flatten)) = gB at *
      have HRL17 : Hid ((256 :: rs).length = 17) := by show _ = _; rw [List.length_cons, HRL.out]
      have HRA0 : Hid (RdMirror w (.agg #[.int .i64 a.xQ, .slice pa a.xViews.length ca]) a) := ra0
      have HRB0 : Hid (RdMirror w (.agg #[.int .i64 b.xQ, .slice pb b.xViews.length cb]) b) := rb0
      have e256 : (a.xQ != 256) = false := by simpa using hq
      clear ra0 rb0 hq sA sB bA bB
      go_enter Tryz.func20, Tryz.ntmps20
      go_wp2_with (first | (refine wpList_load_blk rfl 41 _ rfl w.heap.size rfl X0 Tryz.underlying41 rfl hR ?_) | (refine wpList_load_blk rfl 36 _ rfl (w.heap.size + 1) rfl XA Tryz.underlying36 rfl (by kernel_rfl) ?_) | (refine wpList_load_blk rfl 36 _ rfl (w.heap.size + 2) rfl XB Tryz.underlying36 rfl (by kernel_rfl) ?_))
      refine K.mono ?_
      rintro e w7 ⟨rfl, hb7⟩
      have X7 := X6.keep hb7
      have XA7 := XA6.keep hb7
      have XB7 := XB6.keep hb7
      have Y7 := Y6.keep hb7
      have B7 := B6.trans (hb7.mono B6.size)
      have z7 := hb7.size
      rw [z6] at z7
      clear X0 XA XB X6 XA6 XB6 Y6 B6 hb7 K z6
      have xq := XA7.at.1
      have xl := XA7.lt
      go_wp2_with (refine wpList_load_blk rfl 41 _ rfl w.heap.size rfl X7 Tryz.underlying41 rfl hR ?_)
      clear xq xl
      refine (KC _ B7).mono ?_
      rintro e w8 ⟨q0, d0, q1, d1, q2, d2, bt, b1, b2, rfl, T1, U1, H1, j01, j02, j12, f0, f1, f2, hb1⟩
      have XA8 := XA7.keep hb1
      have XB8 := XB7.keep hb1
      have Y8 := Y7.keep hb1
      have B8 := B7.trans (hb1.mono B7.size)
      have z8 := Nat.le_trans z7 hb1.size
      have fw0 := fun y hy => Nat.le_trans z7 (f0 y hy)
      have fw1 := fun y hy => Nat.le_trans z7 (f1 y hy)
      have fw2 := fun y hy => Nat.le_trans z7 (f2 y hy)
      clear X7 XA7 XB7 Y7 B7 hb1 f0 f1 f2 KC z7
      have Zn := Blk.new w8 41 #[.slice none 0 0, .slice none 0 0, .int .i64 0, .slice none 0 0, .int .i64 0, .int .i64 0, .int .i64 0, .bool false, .bool false, .int .i64 0, .int .i64 0, .int .i64 0, .int .i64 0, .int .i64 0, .int .i64 0, .int .i64 0]
      go_upto_region 7 with (refine wpList_store_blk rfl 41 _ _ rfl w8.heap.size (#[.slice q0 x.xTape.length d0, .slice q1 x.xUsed.length d1, .int .i64 x.xSent, .slice q2 x.xHeard.length d2, .int .i64 x.xCheat.xWho, .int .i64 x.xCheat.xAt, .int .i64 x.xCheat.xBy, .bool x.xCheat.xCry, .bool x.xQuarrel.xSome, .int .i64 x.xQuarrel.xFrom, .int .i64 x.xQuarrel.xCheck, .int .i64 x.xQuarrel.xTo, .int .i64 x.xQuarrel.xTold, .int .i64 x.xQuarrel.xHeard, .int .i64 x.xQuarrel.xOther, .int .i64 x.xQuarrel.xVowed]) rfl rfl Zn rfl (by kernel_rfl) (by kernel_rfl) ?_; intro w2 Z2 O2)
      have O2' : Off [w8.heap.size] w8 w2 := ((Off.refl _ _).alloc _).trans O2
      have N2 : NetIn w2 w8.heap.size x (bt ++ (b1 ++ b2)) := NetIn.of Z2 (T1.off O2' (fun y hy hm => by have := T1.lt y hy; simp at hm; omega)) (U1.off O2' (fun y hy hm => by have := U1.lt y hy; simp at hm; omega)) (H1.off O2' (fun y hy hm => by have := H1.lt y hy; simp at hm; omega)) (fun hm => Nat.lt_irrefl _ (T1.lt _ hm)) (fun hm => Nat.lt_irrefl _ (U1.lt _ hm)) (fun hm => Nat.lt_irrefl _ (H1.lt _ hm)) j01 j02 j12 hH0
      have XA2 := XA8.off O2' (by simp; omega)
      have XB2 := XB8.off O2' (by simp; omega)
      have Y2 := Y8.off O2' (by simp; omega)
      have B2 : Below w.heap.size w w2 := B8.trans (O2'.toBelow B8.size (by have := B8.size; simp; omega))
      have hbs : ∀ y ∈ bt ++ (b1 ++ b2), w.heap.size + 6 ≤ y := fun y hy => by rcases List.mem_append.1 hy with h | h; (exact fw0 y h); (rcases List.mem_append.1 h with h | h; (exact fw1 y h); (exact fw2 y h))
      have lZ := Z2.lt
      have hbl : ∀ y ∈ bt ++ (b1 ++ b2), y < w2.heap.size := N2.lts
      have gz8 : w.heap.size + 6 ≤ w8.heap.size := z8
      clear Zn T1 U1 H1 O2 O2' XA8 XB8 Y8 B8 fw0 fw1 fw2 Z2 j01 j02 j12 z8
      generalize bt ++ (b1 ++ b2) = bs at *
      generalize w8.heap.size = g at *
      go_wp2_with fail
      refine wp_region_held (S := (fun V => (∀ o, V.cell? ⟨w.heap.size + 1, o, none⟩ = (#[.int .i64 a.xQ, .slice pa a.xViews.length ca] : Array Value)[o]?) ∧ (∀ o, V.cell? ⟨w.heap.size + 1 + 1, o, none⟩ = (#[.int .i64 b.xQ, .slice pb b.xViews.length cb] : Array Value)[o]?))) (by kernel_rfl) ?_
      try (change wpAnyH _ _ _ _ _ _ _ _ (World.drew _))
      have XA3 := XA2.drew
      have XB3 := XB2.drew
      have Y3 := Y2.drew
      have N3 : NetIn w2.drew g x bs := N2.keep (Below.refl _ _).drew
      have B3 : Below w.heap.size w w2.drew := B2.trans (Below.refl _ _).drew
      clear XA2 XB2 Y2 N2 B2 lZ hbl
      generalize w2.drew = u0 at *
      have hS := (show (∀ o, u0.cell? ⟨w.heap.size + 1, o, none⟩ = (#[.int .i64 a.xQ, .slice pa a.xViews.length ca] : Array Value)[o]?) ∧ (∀ o, u0.cell? ⟨w.heap.size + 1 + 1, o, none⟩ = (#[.int .i64 b.xQ, .slice pb b.xViews.length cb] : Array Value)[o]?) from ⟨XA3.at.1, XB3.at.1⟩)
      refine wpAnyH_take (i := 0) (v := ?vn1) rfl (by kernel_rfl) (by kernel_rfl) (by kernel_rfl) (fun _ _ _ h => h) (Or.inl ⟨by rfl, ?hn1⟩) hS ?rn1
      case hn1 => intro w' hSw; have h1 := hSw.1; have h2 := hSw.2; clear hSw; go_simp; (try with_reducible rfl)
      (try simp only [List.getElem_toArray]); (try simp only [List.getElem_cons_succ]); (try simp only [List.getElem_cons_zero]); (try simp only [Act.put]); (try simp only [List.setIfInBounds_toArray]); (try simp only [List.set_cons_succ]); (try simp only [List.set_cons_zero])
      refine wpAnyH_take (i := 2) (v := ?vn2) rfl (by kernel_rfl) (by kernel_rfl) (by kernel_rfl) (fun _ _ _ h => h) (Or.inl ⟨by rfl, ?hn2⟩) hS ?rn2
      case hn2 => intro w' hSw; have h1 := hSw.1; have h2 := hSw.2; clear hSw; go_simp; (try with_reducible rfl)
      (try simp only [List.getElem_toArray]); (try simp only [List.getElem_cons_succ]); (try simp only [List.getElem_cons_zero]); (try simp only [Act.put]); (try simp only [List.setIfInBounds_toArray]); (try simp only [List.set_cons_succ]); (try simp only [List.set_cons_zero])
      clear hS
      refine wpAnyH_ready (rs := [1, 5]) (by kernel_rfl) (by simp) ?_
      refine AllReadyH.cons (o := _) rfl (fun K hK => ?_) (AllReadyH.cons (o := _) rfl (fun K hK => ?_) AllReadyH.nil)
      · skip
        rw [if_pos (by rfl)]
        go_simp
        go_at_call 53
        refine (KVA _ (HRA0.out.below B3)).mono ?_
        rintro e v1 ⟨rfl, hb⟩
        have XA_1 := XA3.keep hb
        have XB_1 := XB3.keep hb
        have Y_1 := Y3.keep hb
        have N_1 := N3.keep hb
        have B_1 := B3.trans (hb.mono B3.size)
        clear hb
        dsimp only
        refine hK.out _ _ (show (∀ o, v1.cell? ⟨w.heap.size + 1, o, none⟩ = (#[.int .i64 a.xQ, .slice pa a.xViews.length ca] : Array Value)[o]?) ∧ (∀ o, v1.cell? ⟨w.heap.size + 1 + 1, o, none⟩ = (#[.int .i64 b.xQ, .slice pb b.xViews.length cb] : Array Value)[o]?) from ⟨XA_1.at.1, XB_1.at.1⟩) (fun hS => ?_)
        clear hK K hS
        (try simp only [List.getElem_toArray]); (try simp only [List.getElem_cons_succ]); (try simp only [List.getElem_cons_zero]); (try simp only [Act.put]); (try simp only [List.setIfInBounds_toArray]); (try simp only [List.set_cons_succ]); (try simp only [List.set_cons_zero])
        refine wpAnyH_ready (rs := [3, 5]) (by kernel_rfl) (by simp) ?_
        refine AllReadyH.cons (o := _) rfl (fun K hK => ?_) (AllReadyH.cons (o := _) rfl (fun K hK => ?_) AllReadyH.nil)
        · skip
          rw [if_pos (by rfl)]
          go_simp
          go_at_call 53
          refine (KVB _ (HRB0.out.below B_1)).mono ?_
          rintro e v2 ⟨rfl, hb⟩
          have XA_2 := XA_1.keep hb
          have XB_2 := XB_1.keep hb
          have Y_2 := Y_1.keep hb
          have N_2 := N_1.keep hb
          have B_2 := B_1.trans (hb.mono B_1.size)
          clear hb
          dsimp only
          refine hK.out _ _ (show (∀ o, v2.cell? ⟨w.heap.size + 1, o, none⟩ = (#[.int .i64 a.xQ, .slice pa a.xViews.length ca] : Array Value)[o]?) ∧ (∀ o, v2.cell? ⟨w.heap.size + 1 + 1, o, none⟩ = (#[.int .i64 b.xQ, .slice pb b.xViews.length cb] : Array Value)[o]?) from ⟨XA_2.at.1, XB_2.at.1⟩) (fun hS => ?_)
          clear hK K hS
          (try simp only [List.getElem_toArray]); (try simp only [List.getElem_cons_succ]); (try simp only [List.getElem_cons_zero]); (try simp only [Act.put]); (try simp only [List.setIfInBounds_toArray]); (try simp only [List.set_cons_succ]); (try simp only [List.set_cons_zero])
          refine wpAnyH_ready (rs := [4, 5]) (by kernel_rfl) (by simp) ?_
          refine AllReadyH.cons (o := _) rfl (fun K hK => ?_) (AllReadyH.cons (o := _) rfl (fun K hK => ?_) AllReadyH.nil)
          · skip
            rw [if_pos (by rfl)]
            go_simp
            go_at_call 52
            refine (KXR _ g _ N_2).mono ?_
            rintro e v3 ⟨rfl, cs, N_3, hcs, O⟩
            have hgl : ∀ y ∈ g :: bs, w.heap.size + 6 ≤ y := fun y hy => by rcases List.mem_cons.1 hy with h | h; omega; (exact hbs y h)
            have XA_3 := XA_2.off O (fun hm => by have := hgl _ hm; omega)
            have XB_3 := XB_2.off O (fun hm => by have := hgl _ hm; omega)
            have Y_3 := Y_2.off O (fun hm => by have := hgl _ hm; omega)
            have B_3 := B_2.trans (O.toBelow B_2.size (fun y hy => by have := hgl y hy; omega))
            have hzz := B_2.size
            have hcs2 : ∀ y ∈ cs, w.heap.size + 6 ≤ y := fun y hy => by rcases hcs y hy with h | h; (exact hbs y h); (have := N_2.lt; omega)
            clear O hcs
            dsimp only
            refine hK.out _ _ (show (∀ o, v3.cell? ⟨w.heap.size + 1, o, none⟩ = (#[.int .i64 a.xQ, .slice pa a.xViews.length ca] : Array Value)[o]?) ∧ (∀ o, v3.cell? ⟨w.heap.size + 1 + 1, o, none⟩ = (#[.int .i64 b.xQ, .slice pb b.xViews.length cb] : Array Value)[o]?) from ⟨XA_3.at.1, XB_3.at.1⟩) (fun hS => ?_)
            clear hK K hS
            (try simp only [List.getElem_toArray]); (try simp only [List.getElem_cons_succ]); (try simp only [List.getElem_cons_zero]); (try simp only [Act.put]); (try simp only [List.setIfInBounds_toArray]); (try simp only [List.set_cons_succ]); (try simp only [List.set_cons_zero])
            refine wpAnyH_ready (rs := [5]) (by kernel_rfl) (by simp) ?_
            refine AllReadyH.cons (o := _) rfl (fun K hK => ?_) AllReadyH.nil
            rw [if_pos (by rfl)]
            go_simp
            have NB_4 := Blk.new v3 89 #[.int .i64 0, .int .i64 0, .int .i64 0, .int .i64 0, .int .i64 0, .int .i64 0, .int .i64 0, .int .i64 0, .int .i64 0, .int .i64 0, .int .i64 0, .int .i64 0, .int .i64 0, .int .i64 0, .int .i64 0, .int .i64 0, .int .i64 0]
            have XA_4 := XA_3.alloc (.cells #[.int .i64 0, .int .i64 0, .int .i64 0, .int .i64 0, .int .i64 0, .int .i64 0, .int .i64 0, .int .i64 0, .int .i64 0, .int .i64 0, .int .i64 0, .int .i64 0, .int .i64 0, .int .i64 0, .int .i64 0, .int .i64 0, .int .i64 0] 89)
            have XB_4 := XB_3.alloc (.cells #[.int .i64 0, .int .i64 0, .int .i64 0, .int .i64 0, .int .i64 0, .int .i64 0, .int .i64 0, .int .i64 0, .int .i64 0, .int .i64 0, .int .i64 0, .int .i64 0, .int .i64 0, .int .i64 0, .int .i64 0, .int .i64 0, .int .i64 0] 89)
            have Y_4 := Y_3.alloc (.cells #[.int .i64 0, .int .i64 0, .int .i64 0, .int .i64 0, .int .i64 0, .int .i64 0, .int .i64 0, .int .i64 0, .int .i64 0, .int .i64 0, .int .i64 0, .int .i64 0, .int .i64 0, .int .i64 0, .int .i64 0, .int .i64 0, .int .i64 0] 89)
            have N_4 : NetIn (v3.alloc (.cells #[.int .i64 0, .int .i64 0, .int .i64 0, .int .i64 0, .int .i64 0, .int .i64 0, .int .i64 0, .int .i64 0, .int .i64 0, .int .i64 0, .int .i64 0, .int .i64 0, .int .i64 0, .int .i64 0, .int .i64 0, .int .i64 0, .int .i64 0] 89)) g x2 cs := N_3.keep ((Below.refl _ _).alloc (Nat.le_refl _) _)
            have B_4 := B_3.alloc B_3.size (.cells #[.int .i64 0, .int .i64 0, .int .i64 0, .int .i64 0, .int .i64 0, .int .i64 0, .int .i64 0, .int .i64 0, .int .i64 0, .int .i64 0, .int .i64 0, .int .i64 0, .int .i64 0, .int .i64 0, .int .i64 0, .int .i64 0, .int .i64 0] 89)
            have hng : g < v3.heap.size := N_3.lt
            have hnb : ∀ y ∈ cs, y < v3.heap.size := N_3.lts
            have hnc : v3.heap.size ∉ cs := fun h => by have := hnb _ h; omega
            generalize v3.alloc (.cells #[.int .i64 0, .int .i64 0, .int .i64 0, .int .i64 0, .int .i64 0, .int .i64 0, .int .i64 0, .int .i64 0, .int .i64 0, .int .i64 0, .int .i64 0, .int .i64 0, .int .i64 0, .int .i64 0, .int .i64 0, .int .i64 0, .int .i64 0] 89) = v4 at *
            generalize v3.heap.size = nz at *
            refine hK.out _ _ (show (∀ o, v4.cell? ⟨w.heap.size + 1, o, none⟩ = (#[.int .i64 a.xQ, .slice pa a.xViews.length ca] : Array Value)[o]?) ∧ (∀ o, v4.cell? ⟨w.heap.size + 1 + 1, o, none⟩ = (#[.int .i64 b.xQ, .slice pb b.xViews.length cb] : Array Value)[o]?) from ⟨XA_4.at.1, XB_4.at.1⟩) (fun hS => ?_)
            clear hK K hS
            (try simp only [List.getElem_toArray]); (try simp only [List.getElem_cons_succ]); (try simp only [List.getElem_cons_zero]); (try simp only [Act.put]); (try simp only [List.setIfInBounds_toArray]); (try simp only [List.set_cons_succ]); (try simp only [List.set_cons_zero])
            refine wpAnyH_ready (rs := [6]) (by kernel_rfl) (by simp) ?_
            refine AllReadyH.cons (o := _) rfl (fun K hK => ?_) AllReadyH.nil
            refine step_store_blk rfl 89 _ _ rfl nz (cells1 (256 :: rs)) rfl rfl NB_4 (by rw [cells1_size, HRL17.out]; rfl) (by rw [cells1_size, HRL17.out]; kernel_rfl) (cells1_one _) ?_
            intro v5 NB_5 O
            have lNN := N_4.lt
            have lNs := N_4.lts
            have XA_5 := XA_4.off O (by simp; omega)
            have XB_5 := XB_4.off O (by simp; omega)
            have Y_5 := Y_4.off O (by simp; omega)
            have N_5 := N_4.off O (by simp; omega) (fun y hy hm => by simp at hm; exact hnc (hm ▸ hy))
            have B_5 := B_4.trans (O.toBelow B_4.size (by simp; omega))
            refine hK.out _ _ (show (∀ o, v5.cell? ⟨w.heap.size + 1, o, none⟩ = (#[.int .i64 a.xQ, .slice pa a.xViews.length ca] : Array Value)[o]?) ∧ (∀ o, v5.cell? ⟨w.heap.size + 1 + 1, o, none⟩ = (#[.int .i64 b.xQ, .slice pb b.xViews.length cb] : Array Value)[o]?) from ⟨XA_5.at.1, XB_5.at.1⟩) (fun hS => ?_)
            clear hK K hS O
            (try simp only [List.getElem_toArray]); (try simp only [List.getElem_cons_succ]); (try simp only [List.getElem_cons_zero]); (try simp only [Act.put]); (try simp only [List.setIfInBounds_toArray]); (try simp only [List.set_cons_succ]); (try simp only [List.set_cons_zero])
            refine wpAnyH_done (by kernel_rfl) ?_ _
            have hlts := N_5.lts
            obtain ⟨q0', q1', gH', d0', d1', d2', bt', b1', b2', Z9, T9, U9, H9, -, -, -, k01, k02, k12, rfl⟩ := N_5
            have KX := fun W => impl_mixOf 256 rs x2 q0' q1' gH' d0' d1' d2' W HRL.out
            go_wp2_with (first | (refine wpList_load_blk rfl 89 _ rfl nz rfl NB_5 Tryz.underlying89 rfl (by rw [cells1_size, HRL17.out]; kernel_rfl) ?_) | (refine wpList_load_blk rfl 41 _ rfl g rfl Z9 Tryz.underlying41 rfl (by kernel_rfl) ?_))
            refine (KX _).mono ?_
            rintro e w6 ⟨p, c, rfl, bm, hM, hbm, hb6⟩
            have Y7 := Y_5.keep hb6
            have B7 := B_5.trans (hb6.mono B_5.size)
            have lY7 := Y_5.lt
            go_wp2_with (refine wpList_store_blk rfl 43 _ _ rfl (w.heap.size + 3) (#[.int .i64 0, .int .i64 (mOf x2.xQuarrel.xSome 256 rs).xQ, .slice p (mOf x2.xQuarrel.xSome 256 rs).xViews.length c, .slice q0' x2.xTape.length d0', .slice q1' x2.xUsed.length d1', .int .i64 x2.xSent, .slice (some ⟨gH', 0, none⟩) x2.xHeard.length d2', .int .i64 x2.xCheat.xWho, .int .i64 x2.xCheat.xAt, .int .i64 x2.xCheat.xBy, .bool x2.xCheat.xCry, .bool x2.xQuarrel.xSome, .int .i64 x2.xQuarrel.xFrom, .int .i64 x2.xQuarrel.xCheck, .int .i64 x2.xQuarrel.xTo, .int .i64 x2.xQuarrel.xTold, .int .i64 x2.xQuarrel.xHeard, .int .i64 x2.xQuarrel.xOther, .int .i64 x2.xQuarrel.xVowed]) rfl rfl Y7 rfl (by kernel_rfl) (by kernel_rfl) ?_; intro w7 Y8 O8)
            have HFR : ∀ y ∈ bt' ++ (b1' ++ b2'), w7.heap[y]? = v5.heap[y]? := fun y hy => ((Off.ofBelow hb6).trans O8).block y (hlts y hy) (by have := hcs2 y hy; simp; omega)
            exact bodyPost_ret (v := .agg (#[.int .i64 0, .int .i64 (mOf x2.xQuarrel.xSome 256 rs).xQ, .slice p (mOf x2.xQuarrel.xSome 256 rs).xViews.length c, .slice q0' x2.xTape.length d0', .slice q1' x2.xUsed.length d1', .int .i64 x2.xSent, .slice (some ⟨gH', 0, none⟩) x2.xHeard.length d2', .int .i64 x2.xCheat.xWho, .int .i64 x2.xCheat.xAt, .int .i64 x2.xCheat.xBy, .bool x2.xCheat.xCry, .bool x2.xQuarrel.xSome, .int .i64 x2.xQuarrel.xFrom, .int .i64 x2.xQuarrel.xCheck, .int .i64 x2.xQuarrel.xTo, .int .i64 x2.xQuarrel.xTold, .int .i64 x2.xQuarrel.xHeard, .int .i64 x2.xQuarrel.xOther, .int .i64 x2.xQuarrel.xVowed])) (results_blk Tryz.results20 rfl Y8 Tryz.underlying43 rfl (by kernel_rfl)) rfl (by rw [HRES.out]; exact OutMix.of 0 T9 U9 H9 k01 k02 k12 (fun y hy => ⟨by have := hcs2 y hy; omega, HFR y hy⟩) (hM.off O8 (fun y hy hm => by have := hbm y hy; simp at hm; omega)) (fun y hy => ⟨by have := hbm y hy; omega, fun hm => by have := hbm y hy; have := hlts y hm; omega⟩) (B7.trans (O8.toBelow B7.size (by simp))))
          · skip
            rw [if_pos (by rfl)]
            go_simp
            have NB_6 := Blk.new v2 89 #[.int .i64 0, .int .i64 0, .int .i64 0, .int .i64 0, .int .i64 0, .int .i64 0, .int .i64 0, .int .i64 0, .int .i64 0, .int .i64 0, .int .i64 0, .int .i64 0, .int .i64 0, .int .i64 0, .int .i64 0, .int .i64 0, .int .i64 0]
            have XA_6 := XA_2.alloc (.cells #[.int .i64 0, .int .i64 0, .int .i64 0, .int .i64 0, .int .i64 0, .int .i64 0, .int .i64 0, .int .i64 0, .int .i64 0, .int .i64 0, .int .i64 0, .int .i64 0, .int .i64 0, .int .i64 0, .int .i64 0, .int .i64 0, .int .i64 0] 89)
            have XB_6 := XB_2.alloc (.cells #[.int .i64 0, .int .i64 0, .int .i64 0, .int .i64 0, .int .i64 0, .int .i64 0, .int .i64 0, .int .i64 0, .int .i64 0, .int .i64 0, .int .i64 0, .int .i64 0, .int .i64 0, .int .i64 0, .int .i64 0, .int .i64 0, .int .i64 0] 89)
            have Y_6 := Y_2.alloc (.cells #[.int .i64 0, .int .i64 0, .int .i64 0, .int .i64 0, .int .i64 0, .int .i64 0, .int .i64 0, .int .i64 0, .int .i64 0, .int .i64 0, .int .i64 0, .int .i64 0, .int .i64 0, .int .i64 0, .int .i64 0, .int .i64 0, .int .i64 0] 89)
            have N_6 : NetIn (v2.alloc (.cells #[.int .i64 0, .int .i64 0, .int .i64 0, .int .i64 0, .int .i64 0, .int .i64 0, .int .i64 0, .int .i64 0, .int .i64 0, .int .i64 0, .int .i64 0, .int .i64 0, .int .i64 0, .int .i64 0, .int .i64 0, .int .i64 0, .int .i64 0] 89)) g x bs := N_2.keep ((Below.refl _ _).alloc (Nat.le_refl _) _)
            have B_6 := B_2.alloc B_2.size (.cells #[.int .i64 0, .int .i64 0, .int .i64 0, .int .i64 0, .int .i64 0, .int .i64 0, .int .i64 0, .int .i64 0, .int .i64 0, .int .i64 0, .int .i64 0, .int .i64 0, .int .i64 0, .int .i64 0, .int .i64 0, .int .i64 0, .int .i64 0] 89)
            have hng : g < v2.heap.size := N_2.lt
            have hnb : ∀ y ∈ bs, y < v2.heap.size := N_2.lts
            generalize v2.alloc (.cells #[.int .i64 0, .int .i64 0, .int .i64 0, .int .i64 0, .int .i64 0, .int .i64 0, .int .i64 0, .int .i64 0, .int .i64 0, .int .i64 0, .int .i64 0, .int .i64 0, .int .i64 0, .int .i64 0, .int .i64 0, .int .i64 0, .int .i64 0] 89) = v6 at *
            generalize v2.heap.size = nz at *
            refine hK.out _ _ (show (∀ o, v6.cell? ⟨w.heap.size + 1, o, none⟩ = (#[.int .i64 a.xQ, .slice pa a.xViews.length ca] : Array Value)[o]?) ∧ (∀ o, v6.cell? ⟨w.heap.size + 1 + 1, o, none⟩ = (#[.int .i64 b.xQ, .slice pb b.xViews.length cb] : Array Value)[o]?) from ⟨XA_6.at.1, XB_6.at.1⟩) (fun hS => ?_)
            clear hK K hS
            (try simp only [List.getElem_toArray]); (try simp only [List.getElem_cons_succ]); (try simp only [List.getElem_cons_zero]); (try simp only [Act.put]); (try simp only [List.setIfInBounds_toArray]); (try simp only [List.set_cons_succ]); (try simp only [List.set_cons_zero])
            refine wpAnyH_ready (rs := [4]) (by kernel_rfl) (by simp) ?_
            refine AllReadyH.cons (o := _) rfl (fun K hK => ?_) AllReadyH.nil
            rw [if_pos (by rfl)]
            go_simp
            go_at_call 52
            refine (KXR _ g _ N_6).mono ?_
            rintro e v7 ⟨rfl, cs, N_7, hcs, O⟩
            have hgl : ∀ y ∈ g :: bs, w.heap.size + 6 ≤ y := fun y hy => by rcases List.mem_cons.1 hy with h | h; omega; (exact hbs y h)
            have XA_7 := XA_6.off O (fun hm => by have := hgl _ hm; omega)
            have XB_7 := XB_6.off O (fun hm => by have := hgl _ hm; omega)
            have Y_7 := Y_6.off O (fun hm => by have := hgl _ hm; omega)
            have B_7 := B_6.trans (O.toBelow B_6.size (fun y hy => by have := hgl y hy; omega))
            have hzz := B_6.size
            have NB_7 := NB_6.off O (fun hm => by rcases List.mem_cons.1 hm with h | h; omega; (have := hnb _ h; omega))
            have hnl := NB_6.lt
            have hnc : nz ∉ cs := fun h => by rcases hcs _ h with h | h; (have := hnb _ h; omega); omega
            have hcs2 : ∀ y ∈ cs, w.heap.size + 6 ≤ y := fun y hy => by rcases hcs y hy with h | h; (exact hbs y h); (have := N_6.lt; omega)
            clear O hcs
            dsimp only
            refine hK.out _ _ (show (∀ o, v7.cell? ⟨w.heap.size + 1, o, none⟩ = (#[.int .i64 a.xQ, .slice pa a.xViews.length ca] : Array Value)[o]?) ∧ (∀ o, v7.cell? ⟨w.heap.size + 1 + 1, o, none⟩ = (#[.int .i64 b.xQ, .slice pb b.xViews.length cb] : Array Value)[o]?) from ⟨XA_7.at.1, XB_7.at.1⟩) (fun hS => ?_)
            clear hK K hS
            (try simp only [List.getElem_toArray]); (try simp only [List.getElem_cons_succ]); (try simp only [List.getElem_cons_zero]); (try simp only [Act.put]); (try simp only [List.setIfInBounds_toArray]); (try simp only [List.set_cons_succ]); (try simp only [List.set_cons_zero])
            refine wpAnyH_ready (rs := [6]) (by kernel_rfl) (by simp) ?_
            refine AllReadyH.cons (o := _) rfl (fun K hK => ?_) AllReadyH.nil
            refine step_store_blk rfl 89 _ _ rfl nz (cells1 (256 :: rs)) rfl rfl NB_7 (by rw [cells1_size, HRL17.out]; rfl) (by rw [cells1_size, HRL17.out]; kernel_rfl) (cells1_one _) ?_
            intro v8 NB_8 O
            have lNN := N_7.lt
            have lNs := N_7.lts
            have XA_8 := XA_7.off O (by simp; omega)
            have XB_8 := XB_7.off O (by simp; omega)
            have Y_8 := Y_7.off O (by simp; omega)
            have N_8 := N_7.off O (by simp; omega) (fun y hy hm => by simp at hm; exact hnc (hm ▸ hy))
            have B_8 := B_7.trans (O.toBelow B_7.size (by simp; omega))
            refine hK.out _ _ (show (∀ o, v8.cell? ⟨w.heap.size + 1, o, none⟩ = (#[.int .i64 a.xQ, .slice pa a.xViews.length ca] : Array Value)[o]?) ∧ (∀ o, v8.cell? ⟨w.heap.size + 1 + 1, o, none⟩ = (#[.int .i64 b.xQ, .slice pb b.xViews.length cb] : Array Value)[o]?) from ⟨XA_8.at.1, XB_8.at.1⟩) (fun hS => ?_)
            clear hK K hS O
            (try simp only [List.getElem_toArray]); (try simp only [List.getElem_cons_succ]); (try simp only [List.getElem_cons_zero]); (try simp only [Act.put]); (try simp only [List.setIfInBounds_toArray]); (try simp only [List.set_cons_succ]); (try simp only [List.set_cons_zero])
            refine wpAnyH_done (by kernel_rfl) ?_ _
            have hlts := N_8.lts
            obtain ⟨q0', q1', gH', d0', d1', d2', bt', b1', b2', Z9, T9, U9, H9, -, -, -, k01, k02, k12, rfl⟩ := N_8
            have KX := fun W => impl_mixOf 256 rs x2 q0' q1' gH' d0' d1' d2' W HRL.out
            go_wp2_with (first | (refine wpList_load_blk rfl 89 _ rfl nz rfl NB_8 Tryz.underlying89 rfl (by rw [cells1_size, HRL17.out]; kernel_rfl) ?_) | (refine wpList_load_blk rfl 41 _ rfl g rfl Z9 Tryz.underlying41 rfl (by kernel_rfl) ?_))
            refine (KX _).mono ?_
            rintro e w6 ⟨p, c, rfl, bm, hM, hbm, hb6⟩
            have Y7 := Y_8.keep hb6
            have B7 := B_8.trans (hb6.mono B_8.size)
            have lY7 := Y_8.lt
            go_wp2_with (refine wpList_store_blk rfl 43 _ _ rfl (w.heap.size + 3) (#[.int .i64 0, .int .i64 (mOf x2.xQuarrel.xSome 256 rs).xQ, .slice p (mOf x2.xQuarrel.xSome 256 rs).xViews.length c, .slice q0' x2.xTape.length d0', .slice q1' x2.xUsed.length d1', .int .i64 x2.xSent, .slice (some ⟨gH', 0, none⟩) x2.xHeard.length d2', .int .i64 x2.xCheat.xWho, .int .i64 x2.xCheat.xAt, .int .i64 x2.xCheat.xBy, .bool x2.xCheat.xCry, .bool x2.xQuarrel.xSome, .int .i64 x2.xQuarrel.xFrom, .int .i64 x2.xQuarrel.xCheck, .int .i64 x2.xQuarrel.xTo, .int .i64 x2.xQuarrel.xTold, .int .i64 x2.xQuarrel.xHeard, .int .i64 x2.xQuarrel.xOther, .int .i64 x2.xQuarrel.xVowed]) rfl rfl Y7 rfl (by kernel_rfl) (by kernel_rfl) ?_; intro w7 Y8 O8)
            have HFR : ∀ y ∈ bt' ++ (b1' ++ b2'), w7.heap[y]? = v8.heap[y]? := fun y hy => ((Off.ofBelow hb6).trans O8).block y (hlts y hy) (by have := hcs2 y hy; simp; omega)
            exact bodyPost_ret (v := .agg (#[.int .i64 0, .int .i64 (mOf x2.xQuarrel.xSome 256 rs).xQ, .slice p (mOf x2.xQuarrel.xSome 256 rs).xViews.length c, .slice q0' x2.xTape.length d0', .slice q1' x2.xUsed.length d1', .int .i64 x2.xSent, .slice (some ⟨gH', 0, none⟩) x2.xHeard.length d2', .int .i64 x2.xCheat.xWho, .int .i64 x2.xCheat.xAt, .int .i64 x2.xCheat.xBy, .bool x2.xCheat.xCry, .bool x2.xQuarrel.xSome, .int .i64 x2.xQuarrel.xFrom, .int .i64 x2.xQuarrel.xCheck, .int .i64 x2.xQuarrel.xTo, .int .i64 x2.xQuarrel.xTold, .int .i64 x2.xQuarrel.xHeard, .int .i64 x2.xQuarrel.xOther, .int .i64 x2.xQuarrel.xVowed])) (results_blk Tryz.results20 rfl Y8 Tryz.underlying43 rfl (by kernel_rfl)) rfl (by rw [HRES.out]; exact OutMix.of 0 T9 U9 H9 k01 k02 k12 (fun y hy => ⟨by have := hcs2 y hy; omega, HFR y hy⟩) (hM.off O8 (fun y hy hm => by have := hbm y hy; simp at hm; omega)) (fun y hy => ⟨by have := hbm y hy; omega, fun hm => by have := hbm y hy; have := hlts y hm; omega⟩) (B7.trans (O8.toBelow B7.size (by simp))))
        · skip
          rw [if_pos (by rfl)]
          go_simp
          have NB_9 := Blk.new v1 89 #[.int .i64 0, .int .i64 0, .int .i64 0, .int .i64 0, .int .i64 0, .int .i64 0, .int .i64 0, .int .i64 0, .int .i64 0, .int .i64 0, .int .i64 0, .int .i64 0, .int .i64 0, .int .i64 0, .int .i64 0, .int .i64 0, .int .i64 0]
          have XA_9 := XA_1.alloc (.cells #[.int .i64 0, .int .i64 0, .int .i64 0, .int .i64 0, .int .i64 0, .int .i64 0, .int .i64 0, .int .i64 0, .int .i64 0, .int .i64 0, .int .i64 0, .int .i64 0, .int .i64 0, .int .i64 0, .int .i64 0, .int .i64 0, .int .i64 0] 89)
          have XB_9 := XB_1.alloc (.cells #[.int .i64 0, .int .i64 0, .int .i64 0, .int .i64 0, .int .i64 0, .int .i64 0, .int .i64 0, .int .i64 0, .int .i64 0, .int .i64 0, .int .i64 0, .int .i64 0, .int .i64 0, .int .i64 0, .int .i64 0, .int .i64 0, .int .i64 0] 89)
          have Y_9 := Y_1.alloc (.cells #[.int .i64 0, .int .i64 0, .int .i64 0, .int .i64 0, .int .i64 0, .int .i64 0, .int .i64 0, .int .i64 0, .int .i64 0, .int .i64 0, .int .i64 0, .int .i64 0, .int .i64 0, .int .i64 0, .int .i64 0, .int .i64 0, .int .i64 0] 89)
          have N_9 : NetIn (v1.alloc (.cells #[.int .i64 0, .int .i64 0, .int .i64 0, .int .i64 0, .int .i64 0, .int .i64 0, .int .i64 0, .int .i64 0, .int .i64 0, .int .i64 0, .int .i64 0, .int .i64 0, .int .i64 0, .int .i64 0, .int .i64 0, .int .i64 0, .int .i64 0] 89)) g x bs := N_1.keep ((Below.refl _ _).alloc (Nat.le_refl _) _)
          have B_9 := B_1.alloc B_1.size (.cells #[.int .i64 0, .int .i64 0, .int .i64 0, .int .i64 0, .int .i64 0, .int .i64 0, .int .i64 0, .int .i64 0, .int .i64 0, .int .i64 0, .int .i64 0, .int .i64 0, .int .i64 0, .int .i64 0, .int .i64 0, .int .i64 0, .int .i64 0] 89)
          have hng : g < v1.heap.size := N_1.lt
          have hnb : ∀ y ∈ bs, y < v1.heap.size := N_1.lts
          generalize v1.alloc (.cells #[.int .i64 0, .int .i64 0, .int .i64 0, .int .i64 0, .int .i64 0, .int .i64 0, .int .i64 0, .int .i64 0, .int .i64 0, .int .i64 0, .int .i64 0, .int .i64 0, .int .i64 0, .int .i64 0, .int .i64 0, .int .i64 0, .int .i64 0] 89) = v9 at *
          generalize v1.heap.size = nz at *
          refine hK.out _ _ (show (∀ o, v9.cell? ⟨w.heap.size + 1, o, none⟩ = (#[.int .i64 a.xQ, .slice pa a.xViews.length ca] : Array Value)[o]?) ∧ (∀ o, v9.cell? ⟨w.heap.size + 1 + 1, o, none⟩ = (#[.int .i64 b.xQ, .slice pb b.xViews.length cb] : Array Value)[o]?) from ⟨XA_9.at.1, XB_9.at.1⟩) (fun hS => ?_)
          clear hK K hS
          (try simp only [List.getElem_toArray]); (try simp only [List.getElem_cons_succ]); (try simp only [List.getElem_cons_zero]); (try simp only [Act.put]); (try simp only [List.setIfInBounds_toArray]); (try simp only [List.set_cons_succ]); (try simp only [List.set_cons_zero])
          refine wpAnyH_ready (rs := [3]) (by kernel_rfl) (by simp) ?_
          refine AllReadyH.cons (o := _) rfl (fun K hK => ?_) AllReadyH.nil
          rw [if_pos (by rfl)]
          go_simp
          go_at_call 53
          refine (KVB _ (HRB0.out.below B_9)).mono ?_
          rintro e v10 ⟨rfl, hb⟩
          have XA_10 := XA_9.keep hb
          have XB_10 := XB_9.keep hb
          have Y_10 := Y_9.keep hb
          have N_10 := N_9.keep hb
          have NB_10 := NB_9.keep hb
          have B_10 := B_9.trans (hb.mono B_9.size)
          clear hb
          dsimp only
          refine hK.out _ _ (show (∀ o, v10.cell? ⟨w.heap.size + 1, o, none⟩ = (#[.int .i64 a.xQ, .slice pa a.xViews.length ca] : Array Value)[o]?) ∧ (∀ o, v10.cell? ⟨w.heap.size + 1 + 1, o, none⟩ = (#[.int .i64 b.xQ, .slice pb b.xViews.length cb] : Array Value)[o]?) from ⟨XA_10.at.1, XB_10.at.1⟩) (fun hS => ?_)
          clear hK K hS
          (try simp only [List.getElem_toArray]); (try simp only [List.getElem_cons_succ]); (try simp only [List.getElem_cons_zero]); (try simp only [Act.put]); (try simp only [List.setIfInBounds_toArray]); (try simp only [List.set_cons_succ]); (try simp only [List.set_cons_zero])
          refine wpAnyH_ready (rs := [4]) (by kernel_rfl) (by simp) ?_
          refine AllReadyH.cons (o := _) rfl (fun K hK => ?_) AllReadyH.nil
          rw [if_pos (by rfl)]
          go_simp
          go_at_call 52
          refine (KXR _ g _ N_10).mono ?_
          rintro e v11 ⟨rfl, cs, N_11, hcs, O⟩
          have hgl : ∀ y ∈ g :: bs, w.heap.size + 6 ≤ y := fun y hy => by rcases List.mem_cons.1 hy with h | h; omega; (exact hbs y h)
          have XA_11 := XA_10.off O (fun hm => by have := hgl _ hm; omega)
          have XB_11 := XB_10.off O (fun hm => by have := hgl _ hm; omega)
          have Y_11 := Y_10.off O (fun hm => by have := hgl _ hm; omega)
          have B_11 := B_10.trans (O.toBelow B_10.size (fun y hy => by have := hgl y hy; omega))
          have hzz := B_10.size
          have NB_11 := NB_10.off O (fun hm => by rcases List.mem_cons.1 hm with h | h; omega; (have := hnb _ h; omega))
          have hnl := NB_10.lt
          have hnc : nz ∉ cs := fun h => by rcases hcs _ h with h | h; (have := hnb _ h; omega); omega
          have hcs2 : ∀ y ∈ cs, w.heap.size + 6 ≤ y := fun y hy => by rcases hcs y hy with h | h; (exact hbs y h); (have := N_10.lt; omega)
          clear O hcs
          dsimp only
          refine hK.out _ _ (show (∀ o, v11.cell? ⟨w.heap.size + 1, o, none⟩ = (#[.int .i64 a.xQ, .slice pa a.xViews.length ca] : Array Value)[o]?) ∧ (∀ o, v11.cell? ⟨w.heap.size + 1 + 1, o, none⟩ = (#[.int .i64 b.xQ, .slice pb b.xViews.length cb] : Array Value)[o]?) from ⟨XA_11.at.1, XB_11.at.1⟩) (fun hS => ?_)
          clear hK K hS
          (try simp only [List.getElem_toArray]); (try simp only [List.getElem_cons_succ]); (try simp only [List.getElem_cons_zero]); (try simp only [Act.put]); (try simp only [List.setIfInBounds_toArray]); (try simp only [List.set_cons_succ]); (try simp only [List.set_cons_zero])
          refine wpAnyH_ready (rs := [6]) (by kernel_rfl) (by simp) ?_
          refine AllReadyH.cons (o := _) rfl (fun K hK => ?_) AllReadyH.nil
          refine step_store_blk rfl 89 _ _ rfl nz (cells1 (256 :: rs)) rfl rfl NB_11 (by rw [cells1_size, HRL17.out]; rfl) (by rw [cells1_size, HRL17.out]; kernel_rfl) (cells1_one _) ?_
          intro v12 NB_12 O
          have lNN := N_11.lt
          have lNs := N_11.lts
          have XA_12 := XA_11.off O (by simp; omega)
          have XB_12 := XB_11.off O (by simp; omega)
          have Y_12 := Y_11.off O (by simp; omega)
          have N_12 := N_11.off O (by simp; omega) (fun y hy hm => by simp at hm; exact hnc (hm ▸ hy))
          have B_12 := B_11.trans (O.toBelow B_11.size (by simp; omega))
          refine hK.out _ _ (show (∀ o, v12.cell? ⟨w.heap.size + 1, o, none⟩ = (#[.int .i64 a.xQ, .slice pa a.xViews.length ca] : Array Value)[o]?) ∧ (∀ o, v12.cell? ⟨w.heap.size + 1 + 1, o, none⟩ = (#[.int .i64 b.xQ, .slice pb b.xViews.length cb] : Array Value)[o]?) from ⟨XA_12.at.1, XB_12.at.1⟩) (fun hS => ?_)
          clear hK K hS O
          (try simp only [List.getElem_toArray]); (try simp only [List.getElem_cons_succ]); (try simp only [List.getElem_cons_zero]); (try simp only [Act.put]); (try simp only [List.setIfInBounds_toArray]); (try simp only [List.set_cons_succ]); (try simp only [List.set_cons_zero])
          refine wpAnyH_done (by kernel_rfl) ?_ _
          have hlts := N_12.lts
          obtain ⟨q0', q1', gH', d0', d1', d2', bt', b1', b2', Z9, T9, U9, H9, -, -, -, k01, k02, k12, rfl⟩ := N_12
          have KX := fun W => impl_mixOf 256 rs x2 q0' q1' gH' d0' d1' d2' W HRL.out
          go_wp2_with (first | (refine wpList_load_blk rfl 89 _ rfl nz rfl NB_12 Tryz.underlying89 rfl (by rw [cells1_size, HRL17.out]; kernel_rfl) ?_) | (refine wpList_load_blk rfl 41 _ rfl g rfl Z9 Tryz.underlying41 rfl (by kernel_rfl) ?_))
          refine (KX _).mono ?_
          rintro e w6 ⟨p, c, rfl, bm, hM, hbm, hb6⟩
          have Y7 := Y_12.keep hb6
          have B7 := B_12.trans (hb6.mono B_12.size)
          have lY7 := Y_12.lt
          go_wp2_with (refine wpList_store_blk rfl 43 _ _ rfl (w.heap.size + 3) (#[.int .i64 0, .int .i64 (mOf x2.xQuarrel.xSome 256 rs).xQ, .slice p (mOf x2.xQuarrel.xSome 256 rs).xViews.length c, .slice q0' x2.xTape.length d0', .slice q1' x2.xUsed.length d1', .int .i64 x2.xSent, .slice (some ⟨gH', 0, none⟩) x2.xHeard.length d2', .int .i64 x2.xCheat.xWho, .int .i64 x2.xCheat.xAt, .int .i64 x2.xCheat.xBy, .bool x2.xCheat.xCry, .bool x2.xQuarrel.xSome, .int .i64 x2.xQuarrel.xFrom, .int .i64 x2.xQuarrel.xCheck, .int .i64 x2.xQuarrel.xTo, .int .i64 x2.xQuarrel.xTold, .int .i64 x2.xQuarrel.xHeard, .int .i64 x2.xQuarrel.xOther, .int .i64 x2.xQuarrel.xVowed]) rfl rfl Y7 rfl (by kernel_rfl) (by kernel_rfl) ?_; intro w7 Y8 O8)
          have HFR : ∀ y ∈ bt' ++ (b1' ++ b2'), w7.heap[y]? = v12.heap[y]? := fun y hy => ((Off.ofBelow hb6).trans O8).block y (hlts y hy) (by have := hcs2 y hy; simp; omega)
          exact bodyPost_ret (v := .agg (#[.int .i64 0, .int .i64 (mOf x2.xQuarrel.xSome 256 rs).xQ, .slice p (mOf x2.xQuarrel.xSome 256 rs).xViews.length c, .slice q0' x2.xTape.length d0', .slice q1' x2.xUsed.length d1', .int .i64 x2.xSent, .slice (some ⟨gH', 0, none⟩) x2.xHeard.length d2', .int .i64 x2.xCheat.xWho, .int .i64 x2.xCheat.xAt, .int .i64 x2.xCheat.xBy, .bool x2.xCheat.xCry, .bool x2.xQuarrel.xSome, .int .i64 x2.xQuarrel.xFrom, .int .i64 x2.xQuarrel.xCheck, .int .i64 x2.xQuarrel.xTo, .int .i64 x2.xQuarrel.xTold, .int .i64 x2.xQuarrel.xHeard, .int .i64 x2.xQuarrel.xOther, .int .i64 x2.xQuarrel.xVowed])) (results_blk Tryz.results20 rfl Y8 Tryz.underlying43 rfl (by kernel_rfl)) rfl (by rw [HRES.out]; exact OutMix.of 0 T9 U9 H9 k01 k02 k12 (fun y hy => ⟨by have := hcs2 y hy; omega, HFR y hy⟩) (hM.off O8 (fun y hy hm => by have := hbm y hy; simp at hm; omega)) (fun y hy => ⟨by have := hbm y hy; omega, fun hm => by have := hbm y hy; have := hlts y hm; omega⟩) (B7.trans (O8.toBelow B7.size (by simp))))
      · skip
        rw [if_pos (by rfl)]
        go_simp
        have NB_13 := Blk.new u0 89 #[.int .i64 0, .int .i64 0, .int .i64 0, .int .i64 0, .int .i64 0, .int .i64 0, .int .i64 0, .int .i64 0, .int .i64 0, .int .i64 0, .int .i64 0, .int .i64 0, .int .i64 0, .int .i64 0, .int .i64 0, .int .i64 0, .int .i64 0]
        have XA_13 := XA3.alloc (.cells #[.int .i64 0, .int .i64 0, .int .i64 0, .int .i64 0, .int .i64 0, .int .i64 0, .int .i64 0, .int .i64 0, .int .i64 0, .int .i64 0, .int .i64 0, .int .i64 0, .int .i64 0, .int .i64 0, .int .i64 0, .int .i64 0, .int .i64 0] 89)
        have XB_13 := XB3.alloc (.cells #[.int .i64 0, .int .i64 0, .int .i64 0, .int .i64 0, .int .i64 0, .int .i64 0, .int .i64 0, .int .i64 0, .int .i64 0, .int .i64 0, .int .i64 0, .int .i64 0, .int .i64 0, .int .i64 0, .int .i64 0, .int .i64 0, .int .i64 0] 89)
        have Y_13 := Y3.alloc (.cells #[.int .i64 0, .int .i64 0, .int .i64 0, .int .i64 0, .int .i64 0, .int .i64 0, .int .i64 0, .int .i64 0, .int .i64 0, .int .i64 0, .int .i64 0, .int .i64 0, .int .i64 0, .int .i64 0, .int .i64 0, .int .i64 0, .int .i64 0] 89)
        have N_13 : NetIn (u0.alloc (.cells #[.int .i64 0, .int .i64 0, .int .i64 0, .int .i64 0, .int .i64 0, .int .i64 0, .int .i64 0, .int .i64 0, .int .i64 0, .int .i64 0, .int .i64 0, .int .i64 0, .int .i64 0, .int .i64 0, .int .i64 0, .int .i64 0, .int .i64 0] 89)) g x bs := N3.keep ((Below.refl _ _).alloc (Nat.le_refl _) _)
        have B_13 := B3.alloc B3.size (.cells #[.int .i64 0, .int .i64 0, .int .i64 0, .int .i64 0, .int .i64 0, .int .i64 0, .int .i64 0, .int .i64 0, .int .i64 0, .int .i64 0, .int .i64 0, .int .i64 0, .int .i64 0, .int .i64 0, .int .i64 0, .int .i64 0, .int .i64 0] 89)
        have hng : g < u0.heap.size := N3.lt
        have hnb : ∀ y ∈ bs, y < u0.heap.size := N3.lts
        generalize u0.alloc (.cells #[.int .i64 0, .int .i64 0, .int .i64 0, .int .i64 0, .int .i64 0, .int .i64 0, .int .i64 0, .int .i64 0, .int .i64 0, .int .i64 0, .int .i64 0, .int .i64 0, .int .i64 0, .int .i64 0, .int .i64 0, .int .i64 0, .int .i64 0] 89) = v13 at *
        generalize u0.heap.size = nz at *
        refine hK.out _ _ (show (∀ o, v13.cell? ⟨w.heap.size + 1, o, none⟩ = (#[.int .i64 a.xQ, .slice pa a.xViews.length ca] : Array Value)[o]?) ∧ (∀ o, v13.cell? ⟨w.heap.size + 1 + 1, o, none⟩ = (#[.int .i64 b.xQ, .slice pb b.xViews.length cb] : Array Value)[o]?) from ⟨XA_13.at.1, XB_13.at.1⟩) (fun hS => ?_)
        clear hK K hS
        (try simp only [List.getElem_toArray]); (try simp only [List.getElem_cons_succ]); (try simp only [List.getElem_cons_zero]); (try simp only [Act.put]); (try simp only [List.setIfInBounds_toArray]); (try simp only [List.set_cons_succ]); (try simp only [List.set_cons_zero])
        refine wpAnyH_ready (rs := [1]) (by kernel_rfl) (by simp) ?_
        refine AllReadyH.cons (o := _) rfl (fun K hK => ?_) AllReadyH.nil
        rw [if_pos (by rfl)]
        go_simp
        go_at_call 53
        refine (KVA _ (HRA0.out.below B_13)).mono ?_
        rintro e v14 ⟨rfl, hb⟩
        have XA_14 := XA_13.keep hb
        have XB_14 := XB_13.keep hb
        have Y_14 := Y_13.keep hb
        have N_14 := N_13.keep hb
        have NB_14 := NB_13.keep hb
        have B_14 := B_13.trans (hb.mono B_13.size)
        clear hb
        dsimp only
        refine hK.out _ _ (show (∀ o, v14.cell? ⟨w.heap.size + 1, o, none⟩ = (#[.int .i64 a.xQ, .slice pa a.xViews.length ca] : Array Value)[o]?) ∧ (∀ o, v14.cell? ⟨w.heap.size + 1 + 1, o, none⟩ = (#[.int .i64 b.xQ, .slice pb b.xViews.length cb] : Array Value)[o]?) from ⟨XA_14.at.1, XB_14.at.1⟩) (fun hS => ?_)
        clear hK K hS
        (try simp only [List.getElem_toArray]); (try simp only [List.getElem_cons_succ]); (try simp only [List.getElem_cons_zero]); (try simp only [Act.put]); (try simp only [List.setIfInBounds_toArray]); (try simp only [List.set_cons_succ]); (try simp only [List.set_cons_zero])
        refine wpAnyH_ready (rs := [3]) (by kernel_rfl) (by simp) ?_
        refine AllReadyH.cons (o := _) rfl (fun K hK => ?_) AllReadyH.nil
        rw [if_pos (by rfl)]
        go_simp
        go_at_call 53
        refine (KVB _ (HRB0.out.below B_14)).mono ?_
        rintro e v15 ⟨rfl, hb⟩
        have XA_15 := XA_14.keep hb
        have XB_15 := XB_14.keep hb
        have Y_15 := Y_14.keep hb
        have N_15 := N_14.keep hb
        have NB_15 := NB_14.keep hb
        have B_15 := B_14.trans (hb.mono B_14.size)
        clear hb
        dsimp only
        refine hK.out _ _ (show (∀ o, v15.cell? ⟨w.heap.size + 1, o, none⟩ = (#[.int .i64 a.xQ, .slice pa a.xViews.length ca] : Array Value)[o]?) ∧ (∀ o, v15.cell? ⟨w.heap.size + 1 + 1, o, none⟩ = (#[.int .i64 b.xQ, .slice pb b.xViews.length cb] : Array Value)[o]?) from ⟨XA_15.at.1, XB_15.at.1⟩) (fun hS => ?_)
        clear hK K hS
        (try simp only [List.getElem_toArray]); (try simp only [List.getElem_cons_succ]); (try simp only [List.getElem_cons_zero]); (try simp only [Act.put]); (try simp only [List.setIfInBounds_toArray]); (try simp only [List.set_cons_succ]); (try simp only [List.set_cons_zero])
        refine wpAnyH_ready (rs := [4]) (by kernel_rfl) (by simp) ?_
        refine AllReadyH.cons (o := _) rfl (fun K hK => ?_) AllReadyH.nil
        rw [if_pos (by rfl)]
        go_simp
        go_at_call 52
        refine (KXR _ g _ N_15).mono ?_
        rintro e v16 ⟨rfl, cs, N_16, hcs, O⟩
        have hgl : ∀ y ∈ g :: bs, w.heap.size + 6 ≤ y := fun y hy => by rcases List.mem_cons.1 hy with h | h; omega; (exact hbs y h)
        have XA_16 := XA_15.off O (fun hm => by have := hgl _ hm; omega)
        have XB_16 := XB_15.off O (fun hm => by have := hgl _ hm; omega)
        have Y_16 := Y_15.off O (fun hm => by have := hgl _ hm; omega)
        have B_16 := B_15.trans (O.toBelow B_15.size (fun y hy => by have := hgl y hy; omega))
        have hzz := B_15.size
        have NB_16 := NB_15.off O (fun hm => by rcases List.mem_cons.1 hm with h | h; omega; (have := hnb _ h; omega))
        have hnl := NB_15.lt
        have hnc : nz ∉ cs := fun h => by rcases hcs _ h with h | h; (have := hnb _ h; omega); omega
        have hcs2 : ∀ y ∈ cs, w.heap.size + 6 ≤ y := fun y hy => by rcases hcs y hy with h | h; (exact hbs y h); (have := N_15.lt; omega)
        clear O hcs
        dsimp only
        refine hK.out _ _ (show (∀ o, v16.cell? ⟨w.heap.size + 1, o, none⟩ = (#[.int .i64 a.xQ, .slice pa a.xViews.length ca] : Array Value)[o]?) ∧ (∀ o, v16.cell? ⟨w.heap.size + 1 + 1, o, none⟩ = (#[.int .i64 b.xQ, .slice pb b.xViews.length cb] : Array Value)[o]?) from ⟨XA_16.at.1, XB_16.at.1⟩) (fun hS => ?_)
        clear hK K hS
        (try simp only [List.getElem_toArray]); (try simp only [List.getElem_cons_succ]); (try simp only [List.getElem_cons_zero]); (try simp only [Act.put]); (try simp only [List.setIfInBounds_toArray]); (try simp only [List.set_cons_succ]); (try simp only [List.set_cons_zero])
        refine wpAnyH_ready (rs := [6]) (by kernel_rfl) (by simp) ?_
        refine AllReadyH.cons (o := _) rfl (fun K hK => ?_) AllReadyH.nil
        refine step_store_blk rfl 89 _ _ rfl nz (cells1 (256 :: rs)) rfl rfl NB_16 (by rw [cells1_size, HRL17.out]; rfl) (by rw [cells1_size, HRL17.out]; kernel_rfl) (cells1_one _) ?_
        intro v17 NB_17 O
        have lNN := N_16.lt
        have lNs := N_16.lts
        have XA_17 := XA_16.off O (by simp; omega)
        have XB_17 := XB_16.off O (by simp; omega)
        have Y_17 := Y_16.off O (by simp; omega)
        have N_17 := N_16.off O (by simp; omega) (fun y hy hm => by simp at hm; exact hnc (hm ▸ hy))
        have B_17 := B_16.trans (O.toBelow B_16.size (by simp; omega))
        refine hK.out _ _ (show (∀ o, v17.cell? ⟨w.heap.size + 1, o, none⟩ = (#[.int .i64 a.xQ, .slice pa a.xViews.length ca] : Array Value)[o]?) ∧ (∀ o, v17.cell? ⟨w.heap.size + 1 + 1, o, none⟩ = (#[.int .i64 b.xQ, .slice pb b.xViews.length cb] : Array Value)[o]?) from ⟨XA_17.at.1, XB_17.at.1⟩) (fun hS => ?_)
        clear hK K hS O
        (try simp only [List.getElem_toArray]); (try simp only [List.getElem_cons_succ]); (try simp only [List.getElem_cons_zero]); (try simp only [Act.put]); (try simp only [List.setIfInBounds_toArray]); (try simp only [List.set_cons_succ]); (try simp only [List.set_cons_zero])
        refine wpAnyH_done (by kernel_rfl) ?_ _
        have hlts := N_17.lts
        obtain ⟨q0', q1', gH', d0', d1', d2', bt', b1', b2', Z9, T9, U9, H9, -, -, -, k01, k02, k12, rfl⟩ := N_17
        have KX := fun W => impl_mixOf 256 rs x2 q0' q1' gH' d0' d1' d2' W HRL.out
        go_wp2_with (first | (refine wpList_load_blk rfl 89 _ rfl nz rfl NB_17 Tryz.underlying89 rfl (by rw [cells1_size, HRL17.out]; kernel_rfl) ?_) | (refine wpList_load_blk rfl 41 _ rfl g rfl Z9 Tryz.underlying41 rfl (by kernel_rfl) ?_))
        refine (KX _).mono ?_
        rintro e w6 ⟨p, c, rfl, bm, hM, hbm, hb6⟩
        have Y7 := Y_17.keep hb6
        have B7 := B_17.trans (hb6.mono B_17.size)
        have lY7 := Y_17.lt
        go_wp2_with (refine wpList_store_blk rfl 43 _ _ rfl (w.heap.size + 3) (#[.int .i64 0, .int .i64 (mOf x2.xQuarrel.xSome 256 rs).xQ, .slice p (mOf x2.xQuarrel.xSome 256 rs).xViews.length c, .slice q0' x2.xTape.length d0', .slice q1' x2.xUsed.length d1', .int .i64 x2.xSent, .slice (some ⟨gH', 0, none⟩) x2.xHeard.length d2', .int .i64 x2.xCheat.xWho, .int .i64 x2.xCheat.xAt, .int .i64 x2.xCheat.xBy, .bool x2.xCheat.xCry, .bool x2.xQuarrel.xSome, .int .i64 x2.xQuarrel.xFrom, .int .i64 x2.xQuarrel.xCheck, .int .i64 x2.xQuarrel.xTo, .int .i64 x2.xQuarrel.xTold, .int .i64 x2.xQuarrel.xHeard, .int .i64 x2.xQuarrel.xOther, .int .i64 x2.xQuarrel.xVowed]) rfl rfl Y7 rfl (by kernel_rfl) (by kernel_rfl) ?_; intro w7 Y8 O8)
        have HFR : ∀ y ∈ bt' ++ (b1' ++ b2'), w7.heap[y]? = v17.heap[y]? := fun y hy => ((Off.ofBelow hb6).trans O8).block y (hlts y hy) (by have := hcs2 y hy; simp; omega)
        exact bodyPost_ret (v := .agg (#[.int .i64 0, .int .i64 (mOf x2.xQuarrel.xSome 256 rs).xQ, .slice p (mOf x2.xQuarrel.xSome 256 rs).xViews.length c, .slice q0' x2.xTape.length d0', .slice q1' x2.xUsed.length d1', .int .i64 x2.xSent, .slice (some ⟨gH', 0, none⟩) x2.xHeard.length d2', .int .i64 x2.xCheat.xWho, .int .i64 x2.xCheat.xAt, .int .i64 x2.xCheat.xBy, .bool x2.xCheat.xCry, .bool x2.xQuarrel.xSome, .int .i64 x2.xQuarrel.xFrom, .int .i64 x2.xQuarrel.xCheck, .int .i64 x2.xQuarrel.xTo, .int .i64 x2.xQuarrel.xTold, .int .i64 x2.xQuarrel.xHeard, .int .i64 x2.xQuarrel.xOther, .int .i64 x2.xQuarrel.xVowed])) (results_blk Tryz.results20 rfl Y8 Tryz.underlying43 rfl (by kernel_rfl)) rfl (by rw [HRES.out]; exact OutMix.of 0 T9 U9 H9 k01 k02 k12 (fun y hy => ⟨by have := hcs2 y hy; omega, HFR y hy⟩) (hM.off O8 (fun y hy hm => by have := hbm y hy; simp at hm; omega)) (fun y hy => ⟨by have := hbm y hy; omega, fun hm => by have := hbm y hy; have := hlts y hm; omega⟩) (B7.trans (O8.toBelow B7.size (by simp))))
    · have e256 : (a.xQ != 256) = true := by simpa using hq
      rw [xorC_form hc hq, xorR_bad (by decide)]
      rw [hc] at K
      clear hc hq KC ra0 rb0 ga gb
      go_enter Tryz.func20, Tryz.ntmps20
      go_wp2_with (first | (refine wpList_load_blk rfl 41 _ rfl w.heap.size rfl X0 Tryz.underlying41 rfl hR ?_) | (refine wpList_load_blk rfl 36 _ rfl (w.heap.size + 1) rfl XA Tryz.underlying36 rfl (by kernel_rfl) ?_) | (refine wpList_load_blk rfl 36 _ rfl (w.heap.size + 2) rfl XB Tryz.underlying36 rfl (by kernel_rfl) ?_))
      refine K.mono ?_
      rintro e w7 ⟨rfl, hb7⟩
      have XA7 := XA6.keep hb7
      have Y7 := Y6.keep hb7
      have B7 := B6.trans (hb7.mono B6.size)
      clear X0 XA XB X6 XA6 XB6 Y6 hb7 K
      have xq := XA7.at.1
      have xl := XA7.lt
      go_wp2_with (refine wpList_store_blk rfl 43 _ _ rfl (w.heap.size + 3) (#[.int .i64 (1), .int .i64 0, .slice none 0 0, .slice none 0 0, .slice none 0 0, .int .i64 0, .slice none 0 0, .int .i64 0, .int .i64 0, .int .i64 0, .bool false, .bool false, .int .i64 0, .int .i64 0, .int .i64 0, .int .i64 0, .int .i64 0, .int .i64 0, .int .i64 0]) rfl rfl Y7 rfl (by kernel_rfl) (by kernel_rfl) ?_; intro w9 Y9 O9)
      exact bodyPost_ret (v := .agg (#[.int .i64 (1), .int .i64 0, .slice none 0 0, .slice none 0 0, .slice none 0 0, .int .i64 0, .slice none 0 0, .int .i64 0, .int .i64 0, .int .i64 0, .bool false, .bool false, .int .i64 0, .int .i64 0, .int .i64 0, .int .i64 0, .int .i64 0, .int .i64 0, .int .i64 0])) (results_blk Tryz.results20 rfl Y9 Tryz.underlying43 rfl (by kernel_rfl)) rfl (OutMix.bad (1) (B7.trans (O9.toBelow B7.size (by simp))))
  · have hne : (dotCS x [a] [b] != 0) = true := by simpa using hc
    rw [xorC_bad hc, xorR_bad hc]
    generalize dotCS x [a] [b] = r at *
    clear hc KC ra0 rb0 ga gb
    go_enter Tryz.func20, Tryz.ntmps20
    go_wp2_with (first | (refine wpList_load_blk rfl 41 _ rfl w.heap.size rfl X0 Tryz.underlying41 rfl hR ?_) | (refine wpList_load_blk rfl 36 _ rfl (w.heap.size + 1) rfl XA Tryz.underlying36 rfl (by kernel_rfl) ?_) | (refine wpList_load_blk rfl 36 _ rfl (w.heap.size + 2) rfl XB Tryz.underlying36 rfl (by kernel_rfl) ?_))
    refine K.mono ?_
    rintro e w7 ⟨rfl, hb7⟩
    have Y7 := Y6.keep hb7
    have B7 := B6.trans (hb7.mono B6.size)
    clear X0 XA XB X6 XA6 XB6 Y6 hb7 K
    go_wp2_with (refine wpList_store_blk rfl 43 _ _ rfl (w.heap.size + 3) (#[.int .i64 (r), .int .i64 0, .slice none 0 0, .slice none 0 0, .slice none 0 0, .int .i64 0, .slice none 0 0, .int .i64 0, .int .i64 0, .int .i64 0, .bool false, .bool false, .int .i64 0, .int .i64 0, .int .i64 0, .int .i64 0, .int .i64 0, .int .i64 0, .int .i64 0]) rfl rfl Y7 rfl (by kernel_rfl) (by kernel_rfl) ?_; intro w9 Y9 O9)
    exact bodyPost_ret (v := .agg (#[.int .i64 (r), .int .i64 0, .slice none 0 0, .slice none 0 0, .slice none 0 0, .int .i64 0, .slice none 0 0, .int .i64 0, .int .i64 0, .int .i64 0, .bool false, .bool false, .int .i64 0, .int .i64 0, .int .i64 0, .int .i64 0, .int .i64 0, .int .i64 0, .int .i64 0])) (results_blk Tryz.results20 rfl Y9 Tryz.underlying43 rfl (by kernel_rfl)) rfl (OutMix.bad (r) (B7.trans (O9.toBelow B7.size (by simp))))
end Go.Proofs.YtepobckhfodngalGreat
