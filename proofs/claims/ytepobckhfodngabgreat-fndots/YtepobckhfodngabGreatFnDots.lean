/-
  FnDots answers true whatever bytes it draws from: a row of products is worth the sum of them, or there is a quarrel in which who cheats is told apart.
-/
import Derived.Test.YtepobckhfodngabGreatDraw11
import Derived.Test.YtepobckhfodngabGreatLawE
import Derived.Test.YtepobckhfodngabGreatMirR
import Derived.Test.YtepobckhfodngabGreatMirT
import Derived.Test.YtepobckhfodngabGreatLw
import Derived.Deep.RegionHeld3
import Derived.Deep.CutRange
import Derived.Deep.Cut
import Derived.Deep.RegionWith
import Derived.ShutString
import Derived.ChangeOld
import Derived.Below
namespace Go.Proofs.YtepobckhfodngabGreat.fnDots
open Go.ChangeShapes Go.WideShapes Go.ChangeAt Go.RowKit
open Go.ChangeMaps (open_string shut_string)
set_option linter.unusedVariables false

theorem own : ownKnob Tryz.prog.godebug = none := by kernel_rfl
theorem laidOut : laidOutB Tryz.prog = true := by kernel_rfl

theorem fieldMR_0 (x0 x1 x2 x3 x4 x5 x6 x7 x8 x9 x10 x11 x12 x13 x14 x15 x16 x17 x18 : Value) (w : World) : (Instr.field 40 (.agg #[x0, x1, x2, x3, x4, x5, x6, x7, x8, x9, x10, x11, x12, x13, x14, x15, x16, x17, x18]) 0).run Tryz.prog w = .ok x0 w := by kernel_rfl
theorem fieldMR_2 (x0 x1 x2 x3 x4 x5 x6 x7 x8 x9 x10 x11 x12 x13 x14 x15 x16 x17 x18 : Value) (w : World) : (Instr.field 40 (.agg #[x0, x1, x2, x3, x4, x5, x6, x7, x8, x9, x10, x11, x12, x13, x14, x15, x16, x17, x18]) 2).run Tryz.prog w = .ok (.agg #[x3, x4, x5, x6, x7, x8, x9, x10, x11, x12, x13, x14, x15, x16, x17, x18]) w := by kernel_rfl
theorem fieldNT_2 (x0 x1 x2 x3 x4 x5 x6 x7 x8 x9 x10 x11 x12 x13 x14 x15 : Value) (w : World) : (Instr.field 33 (.agg #[x0, x1, x2, x3, x4, x5, x6, x7, x8, x9, x10, x11, x12, x13, x14, x15]) 2).run Tryz.prog w = .ok x2 w := by kernel_rfl
/-- two cells side by side -/
def At2 (W : World) (x y : Value) (g o : Nat) : Prop := g < W.heap.size ∧ W.cell? ⟨g, o, none⟩ = some x ∧ W.cell? ⟨g, o + 1, none⟩ = some y
theorem At2.below {W W' : World} {x y : Value} {g o : Nat} (h : At2 W x y g o) (hb : Below W.heap.size W W') : At2 W' x y g o :=
  ⟨Nat.lt_of_lt_of_le h.1 hb.size, (hb.cell (p := ⟨g, o, none⟩) h.1).trans h.2.1, (hb.cell (p := ⟨g, o + 1, none⟩) h.1).trans h.2.2⟩
theorem RdMirrorS.at2 {W : World} {g o n c k : Nat} {xs : List MMirror} (h : RdMirrorS W (.slice (some ⟨g, o, none⟩) n c) xs) (hn : xs.length = n) (hk : k < n) : ∃ p d, At2 W (.int .i64 (xs.getD k zM).xQ) (.slice p (xs.getD k zM).xViews.length d) g (o + k * 2) ∧ RdMirror W (.agg #[.int .i64 (xs.getD k zM).xQ, .slice p (xs.getD k zM).xViews.length d]) (xs.getD k zM) := by
  obtain ⟨a, cap, e, hm, hA⟩ := h
  simp only [Value.slice.injEq] at e
  obtain ⟨rfl, rfl, rfl⟩ := e
  obtain ⟨b, off, e, hlt, hc⟩ := hA (by intro h; rw [h] at hk; simp at hk)
  simp only [Option.some.injEq, Addr.mk.injEq] at e
  obtain ⟨rfl, rfl, -⟩ := e
  obtain ⟨p, d, h0, h1, h2⟩ := hc k hk
  exact ⟨p, d, ⟨hlt, h0, h1⟩, ⟨p, d, rfl, h2⟩⟩
theorem RdMirrorS.ex {W : World} {p : Option Addr} {n c : Nat} {xs : List MMirror} (h : RdMirrorS W (.slice p n c) xs) (hx : 0 < xs.length) : ∃ g o, p = some ⟨g, o, none⟩ := by
  obtain ⟨a, cap, e, hm, hA⟩ := h
  simp only [Value.slice.injEq] at e
  obtain ⟨rfl, rfl, rfl⟩ := e
  obtain ⟨b, off, e, hlt, hc⟩ := hA (by intro h; rw [h] at hx; simp at hx)
  exact ⟨b, off, e⟩
theorem lwQuiet_at (x0 x1 x2 x3 x5 x6 x7 x8 x9 x10 x11 x12 x13 x14 x15 : Value) (who : Int) (w : World) : Calls Tryz.prog 12 #[.agg #[x0, x1, x2, x3, .int .i64 who, x5, x6, x7, x8, x9, x10, x11, x12, x13, x14, x15]] w fun e w' => e = .returned (.bool (decide (who < 0))) ∧ Below w.heap.size w w' := by
  have B : Below w.heap.size w (w.alloc (.cells #[x0, x1, x2, x3, .int .i64 who, x5, x6, x7, x8, x9, x10, x11, x12, x13, x14, x15] 33)) := (by repeat (first | exact Below.refl _ _ | refine Below.drew ?_ | refine below_drewN ?_ _ | refine Below.setCell ?_ (by first | omega | (simp; done) | (simp; omega)) _ | refine Below.alloc ?_ (by first | omega | (simp; done) | (simp; omega)) _))
  have X := (Blk.new w 33 #[x0, x1, x2, x3, .int .i64 who, x5, x6, x7, x8, x9, x10, x11, x12, x13, x14, x15])
  go_enter Tryz.func12, Tryz.ntmps12
  go_wp2
  go_ret
  exact ⟨rfl, B⟩
set_option maxHeartbeats 16000000 in
set_option maxRecDepth 100000 in
theorem walk (a0 : Option Addr) (len0 cap0 : Nat) (z0 : List Int) (w : World) (w0 : IsRow .u8 w a0 len0 cap0 z0) :
    Calls Tryz.prog 3 #[.slice a0 len0 cap0] w fun e w' => e = .returned (.bool true) ∧ Below w.heap.size w w' := by
  obtain ⟨zs, rfl, hr, hw⟩ := w0.reads
  clear w0
  have hby := bytes_of hw
  clear hw
  by_cases hl : 1048576 < zs.length
  · go_enter Tryz.func3, Tryz.ntmps3
    go_wp2_with fail
    refine (lwBig_yes _ _ _ _ hl).mono ?_
    rintro e w' ⟨rfl, rfl⟩
    go_wp2
    go_ret
    exact ⟨rfl, Below.refl _ _⟩
  · have hl' : zs.length ≤ 1048576 := by omega
    have HR0 : Hid (Reads w .u8 (.slice a0 zs.length cap0) zs) := hr
    clear hr
    have fm0 := fieldMR_0
    have fm2 := fieldMR_2
    have fn2 := fieldNT_2
    have fi0 := field_0
    have fi1 := field_1
    go_enter Tryz.func3, Tryz.ntmps3
    go_wp2_with fail
    refine (lwBig_no _ _ _ _ hl').mono ?_
    rintro e w' ⟨rfl, rfl⟩
    go_wp2_with fail
    refine (spec_DrawDotMirrors a0 cap0 zs w HR0.out hl' hby).mono ?_
    rintro e w1 ⟨u, x, v, v', xs, ys, rfl, rN0, hF, rX0, rY0, DD, B⟩
    have HF : Hid (Fit x) := hF
    have HDD : Hid (DrawnD xs ys) := DD
    have rX1 := rX0.rd
    have rY1 := rY0.rd
    have rN1 := rN0 w1 [] (Off.refl _ _) (fun z hz => by cases hz)
    clear hF DD rX0 rY0 rN0
    obtain ⟨p0, c0, p1, c1, p2, c2, rfl, rn⟩ := rN1
    have rN : RdNet w1 (.agg #[.slice p0 x.xTape.length c0, .slice p1 x.xUsed.length c1, .int .i64 x.xSent, .slice p2 x.xHeard.length c2, .int .i64 x.xCheat.xWho, .int .i64 x.xCheat.xAt, .int .i64 x.xCheat.xBy, .bool x.xCheat.xCry, .bool x.xQuarrel.xSome, .int .i64 x.xQuarrel.xFrom, .int .i64 x.xQuarrel.xCheck, .int .i64 x.xQuarrel.xTo, .int .i64 x.xQuarrel.xTold, .int .i64 x.xQuarrel.xHeard, .int .i64 x.xQuarrel.xOther, .int .i64 x.xQuarrel.xVowed]) x := ⟨p0, c0, p1, c1, p2, c2, rfl, rn⟩
    clear rn
    obtain ⟨px, cx, rfl⟩ := rX1.shp
    obtain ⟨py, cy, rfl⟩ := rY1.shp
    have HDI : Hid (dotCI x xs ys = dotCS x xs ys) := dotCI_drawn x HDD.out
    have KR : ∀ W v u, RdNet W (.agg #[.slice p0 x.xTape.length c0, .slice p1 x.xUsed.length c1, .int .i64 x.xSent, .slice p2 x.xHeard.length c2, .int .i64 x.xCheat.xWho, .int .i64 x.xCheat.xAt, .int .i64 x.xCheat.xBy, .bool x.xCheat.xCry, .bool x.xQuarrel.xSome, .int .i64 x.xQuarrel.xFrom, .int .i64 x.xQuarrel.xCheck, .int .i64 x.xQuarrel.xTo, .int .i64 x.xQuarrel.xTold, .int .i64 x.xQuarrel.xHeard, .int .i64 x.xQuarrel.xOther, .int .i64 x.xQuarrel.xVowed]) x → RdMirrorS W v xs → RdMirrorS W u ys → Calls Tryz.prog 7 #[.agg #[.slice p0 x.xTape.length c0, .slice p1 x.xUsed.length c1, .int .i64 x.xSent, .slice p2 x.xHeard.length c2, .int .i64 x.xCheat.xWho, .int .i64 x.xCheat.xAt, .int .i64 x.xCheat.xBy, .bool x.xCheat.xCry, .bool x.xQuarrel.xSome, .int .i64 x.xQuarrel.xFrom, .int .i64 x.xQuarrel.xCheck, .int .i64 x.xQuarrel.xTo, .int .i64 x.xQuarrel.xTold, .int .i64 x.xQuarrel.xHeard, .int .i64 x.xQuarrel.xOther, .int .i64 x.xQuarrel.xVowed], v, u] W fun e w' => OutMix W w' (dotR (dotCS x xs ys) x xs ys) e := fun W v u h h2 h3 => by have := impl_DotMirrors (.agg #[.slice p0 x.xTape.length c0, .slice p1 x.xUsed.length c1, .int .i64 x.xSent, .slice p2 x.xHeard.length c2, .int .i64 x.xCheat.xWho, .int .i64 x.xCheat.xAt, .int .i64 x.xCheat.xBy, .bool x.xCheat.xCry, .bool x.xQuarrel.xSome, .int .i64 x.xQuarrel.xFrom, .int .i64 x.xQuarrel.xCheck, .int .i64 x.xQuarrel.xTo, .int .i64 x.xQuarrel.xTold, .int .i64 x.xQuarrel.xHeard, .int .i64 x.xQuarrel.xOther, .int .i64 x.xQuarrel.xVowed]) x v u xs ys W h HF.out h2 h3; rw [HDI.out] at this; exact this
    have KRS := fun W v u h h2 h3 => spec_DotMirrors (.agg #[.slice p0 x.xTape.length c0, .slice p1 x.xUsed.length c1, .int .i64 x.xSent, .slice p2 x.xHeard.length c2, .int .i64 x.xCheat.xWho, .int .i64 x.xCheat.xAt, .int .i64 x.xCheat.xBy, .bool x.xCheat.xCry, .bool x.xQuarrel.xSome, .int .i64 x.xQuarrel.xFrom, .int .i64 x.xQuarrel.xCheck, .int .i64 x.xQuarrel.xTo, .int .i64 x.xQuarrel.xTold, .int .i64 x.xQuarrel.xHeard, .int .i64 x.xQuarrel.xOther, .int .i64 x.xQuarrel.xVowed]) x v u xs ys W h HF.out h2 h3
    have HR1 : Hid ((dotR (dotCS x xs ys) x xs ys).xCode = 0 → dotCS x xs ys = 0) := fun h => by by_cases hc : dotCS x xs ys = 0; (exact hc); (rw [dotR_bad hc] at h; exact absurd h hc)
    have HR2 : Hid (dotCS x xs ys = 0 → dotR (dotCS x xs ys) x xs ys = dotR 0 x xs ys) := fun h => by rw [h]
    generalize hRR : dotR (dotCS x xs ys) x xs ys = R at *
    clear hRR
    generalize hnx : xs.length = nx at *
    generalize hny : ys.length = ny at *
    have HNX : Hid (xs.length = nx ∧ ys.length = ny) := ⟨hnx, hny⟩
    clear hnx hny
    have rX : RdMirrorS w1 (.slice px nx cx) xs := rX1
    have rY : RdMirrorS w1 (.slice py ny cy) ys := rY1
    clear rX1 rY1
    have Zn := Blk.new w1 33 #[.slice none 0 0, .slice none 0 0, .int .i64 0, .slice none 0 0, .int .i64 0, .int .i64 0, .int .i64 0, .bool false, .bool false, .int .i64 0, .int .i64 0, .int .i64 0, .int .i64 0, .int .i64 0, .int .i64 0, .int .i64 0]
    go_wp2_with (first | (refine wpList_store_blk rfl 33 _ _ rfl w1.heap.size (#[.slice p0 x.xTape.length c0, .slice p1 x.xUsed.length c1, .int .i64 x.xSent, .slice p2 x.xHeard.length c2, .int .i64 x.xCheat.xWho, .int .i64 x.xCheat.xAt, .int .i64 x.xCheat.xBy, .bool x.xCheat.xCry, .bool x.xQuarrel.xSome, .int .i64 x.xQuarrel.xFrom, .int .i64 x.xQuarrel.xCheck, .int .i64 x.xQuarrel.xTo, .int .i64 x.xQuarrel.xTold, .int .i64 x.xQuarrel.xHeard, .int .i64 x.xQuarrel.xOther, .int .i64 x.xQuarrel.xVowed]) rfl rfl Zn rfl (by kernel_rfl) (by kernel_rfl) ?_; intro wx XN O2; have lg := Zn) | (refine wpList_load_blk rfl 33 _ rfl w1.heap.size rfl XN Tryz.underlying33 rfl (by kernel_rfl) ?_))
    have B2 : Below w.heap.size w wx := (B.alloc B.size _).trans (O2.toBelow (B.alloc B.size _).size (by have := B.size; simp; omega))
    have q2 : Below w1.heap.size w1 wx := ((Below.refl w1.heap.size w1).alloc (Nat.le_refl _) _).trans (O2.toBelow (by simp) (by simp))
    replace rN := rN.below q2
    replace rX := rX.below q2
    replace rY := rY.below q2
    replace B := B2
    clear O2 Zn B2 q2
    generalize w1.heap.size = b3 at *
    refine Calls.at (F := fun V => Blk V b3 33 #[.slice p0 x.xTape.length c0, .slice p1 x.xUsed.length c1, .int .i64 x.xSent, .slice p2 x.xHeard.length c2, .int .i64 x.xCheat.xWho, .int .i64 x.xCheat.xAt, .int .i64 x.xCheat.xBy, .bool x.xCheat.xCry, .bool x.xQuarrel.xSome, .int .i64 x.xQuarrel.xFrom, .int .i64 x.xQuarrel.xCheck, .int .i64 x.xQuarrel.xTo, .int .i64 x.xQuarrel.xTold, .int .i64 x.xQuarrel.xHeard, .int .i64 x.xQuarrel.xOther, .int .i64 x.xQuarrel.xVowed] ∧ RdNet V (.agg #[.slice p0 x.xTape.length c0, .slice p1 x.xUsed.length c1, .int .i64 x.xSent, .slice p2 x.xHeard.length c2, .int .i64 x.xCheat.xWho, .int .i64 x.xCheat.xAt, .int .i64 x.xCheat.xBy, .bool x.xCheat.xCry, .bool x.xQuarrel.xSome, .int .i64 x.xQuarrel.xFrom, .int .i64 x.xQuarrel.xCheck, .int .i64 x.xQuarrel.xTo, .int .i64 x.xQuarrel.xTold, .int .i64 x.xQuarrel.xHeard, .int .i64 x.xQuarrel.xOther, .int .i64 x.xQuarrel.xVowed]) x ∧ RdMirrorS V (.slice px nx cx) xs ∧ RdMirrorS V (.slice py ny cy) ys ∧ Below w.heap.size w V) ⟨XN, rN, rX, rY, B⟩ ?_
    clear XN rN rX rY B
    rintro V1 ⟨XN, rN, rX, rY, B⟩
    refine (KR _ _ _ rN rX rY).mono ?_
    rintro e w2 ⟨u6, bb0, bb1, bb2, bb3, rfl, ON, -, -, -, -, k2⟩
    obtain ⟨q0, d0, q1, d1, q2, d2, q3, d3, rfl, m0, m1, m2, m3, -⟩ := ON
    have rM : RdMirror w2 (.agg #[.int .i64 R.xMirror.xQ, .slice q0 R.xMirror.xViews.length d0]) R.xMirror := ⟨q0, d0, rfl, m0.reads⟩
    clear m0 m1 m2 m3 KR
    replace XN := XN.keep k2
    replace rN := rN.below k2
    replace rX := rX.below k2
    replace rY := rY.below k2
    replace B := B.trans (k2.mono B.size)
    clear k2
    by_cases hf : R.xCode = 0
    · as_aux_lemma =>
        have ef : (R.xCode != 0) = false := by simpa using hf
        have hcs := HR1.out hf
        have HCS : Hid (dotCS x xs ys = 0) := hcs
        have OK := dotsOk HDD.out hcs
        rw [HNX.out.1] at OK
        have HOK : Hid (DotsOk x xs ys nx (xs.getD 0 zM).xQ) := OK
        have hny : ny = nx := by rw [← HNX.out.2]; exact OK.ly
        subst hny
        have HN : Hid (xs.length = ny ∧ ys.length = ny) := HNX.out
        have hn13 := OK.hn
        obtain ⟨gx, ox, rfl⟩ := RdMirrorS.ex rX (by rw [HN.out.1]; omega)
        obtain ⟨gy, oy, rfl⟩ := RdMirrorS.ex rY (by rw [HN.out.2]; omega)
        clear hf hcs OK
        have Zr := Blk.new w2 40 #[.int .i64 0, .int .i64 0, .slice none 0 0, .slice none 0 0, .slice none 0 0, .int .i64 0, .slice none 0 0, .int .i64 0, .int .i64 0, .int .i64 0, .bool false, .bool false, .int .i64 0, .int .i64 0, .int .i64 0, .int .i64 0, .int .i64 0, .int .i64 0, .int .i64 0]
        go_wp2_with (refine wpList_store_blk rfl 40 _ _ rfl w2.heap.size (#[.int .i64 R.xCode, .int .i64 R.xMirror.xQ, .slice q0 R.xMirror.xViews.length d0, .slice q1 R.xNet.xTape.length d1, .slice q2 R.xNet.xUsed.length d2, .int .i64 R.xNet.xSent, .slice q3 R.xNet.xHeard.length d3, .int .i64 R.xNet.xCheat.xWho, .int .i64 R.xNet.xCheat.xAt, .int .i64 R.xNet.xCheat.xBy, .bool R.xNet.xCheat.xCry, .bool R.xNet.xQuarrel.xSome, .int .i64 R.xNet.xQuarrel.xFrom, .int .i64 R.xNet.xQuarrel.xCheck, .int .i64 R.xNet.xQuarrel.xTo, .int .i64 R.xNet.xQuarrel.xTold, .int .i64 R.xNet.xQuarrel.xHeard, .int .i64 R.xNet.xQuarrel.xOther, .int .i64 R.xNet.xQuarrel.xVowed]) rfl rfl Zr rfl (by kernel_rfl) (by kernel_rfl) ?_; intro wy XR O6; have XRa := XR.at.1; have XRl := XR.lt)
        have K6 : Below w2.heap.size w2 wy := ((Below.refl _ _).alloc (Nat.le_refl _) _).trans (O6.toBelow (by simp) (by simp))
        replace XN := XN.keep K6
        replace rN := rN.below K6
        replace rX := rX.below K6
        replace rY := rY.below K6
        replace rM := rM.below K6
        replace B := B.trans (K6.mono B.size)
        clear K6 O6 Zr XRa XRl
        generalize w2.heap.size = b6 at *
        go_loopw [7, 8, 9] (fun sv av i wr => ∃ k : Nat, k ≤ ny ∧ sv = .int .i64 (sumV xs ys k) ∧ av = .bool (alV xs ys k) ∧ i = .int .i64 k ∧ Blk wr b3 33 #[.slice p0 x.xTape.length c0, .slice p1 x.xUsed.length c1, .int .i64 x.xSent, .slice p2 x.xHeard.length c2, .int .i64 x.xCheat.xWho, .int .i64 x.xCheat.xAt, .int .i64 x.xCheat.xBy, .bool x.xCheat.xCry, .bool x.xQuarrel.xSome, .int .i64 x.xQuarrel.xFrom, .int .i64 x.xQuarrel.xCheck, .int .i64 x.xQuarrel.xTo, .int .i64 x.xQuarrel.xTold, .int .i64 x.xQuarrel.xHeard, .int .i64 x.xQuarrel.xOther, .int .i64 x.xQuarrel.xVowed] ∧ Blk wr b6 40 #[.int .i64 R.xCode, .int .i64 R.xMirror.xQ, .slice q0 R.xMirror.xViews.length d0, .slice q1 R.xNet.xTape.length d1, .slice q2 R.xNet.xUsed.length d2, .int .i64 R.xNet.xSent, .slice q3 R.xNet.xHeard.length d3, .int .i64 R.xNet.xCheat.xWho, .int .i64 R.xNet.xCheat.xAt, .int .i64 R.xNet.xCheat.xBy, .bool R.xNet.xCheat.xCry, .bool R.xNet.xQuarrel.xSome, .int .i64 R.xNet.xQuarrel.xFrom, .int .i64 R.xNet.xQuarrel.xCheck, .int .i64 R.xNet.xQuarrel.xTo, .int .i64 R.xNet.xQuarrel.xTold, .int .i64 R.xNet.xQuarrel.xHeard, .int .i64 R.xNet.xQuarrel.xOther, .int .i64 R.xNet.xQuarrel.xVowed] ∧ RdNet wr (.agg #[.slice p0 x.xTape.length c0, .slice p1 x.xUsed.length c1, .int .i64 x.xSent, .slice p2 x.xHeard.length c2, .int .i64 x.xCheat.xWho, .int .i64 x.xCheat.xAt, .int .i64 x.xCheat.xBy, .bool x.xCheat.xCry, .bool x.xQuarrel.xSome, .int .i64 x.xQuarrel.xFrom, .int .i64 x.xQuarrel.xCheck, .int .i64 x.xQuarrel.xTo, .int .i64 x.xQuarrel.xTold, .int .i64 x.xQuarrel.xHeard, .int .i64 x.xQuarrel.xOther, .int .i64 x.xQuarrel.xVowed]) x ∧ RdMirrorS wr (.slice (some ⟨gx, ox, none⟩) ny cx) xs ∧ RdMirrorS wr (.slice (some ⟨gy, oy, none⟩) ny cy) ys ∧ RdMirror wr (.agg #[.int .i64 R.xMirror.xQ, .slice q0 R.xMirror.xViews.length d0]) R.xMirror ∧ Below w.heap.size w wr) (fun _ _ i _ => ny - (intOf i).toNat)
        case atStart => exact ⟨0, by omega, rfl, rfl, rfl, XN, XR, rN, rX, rY, rM, B⟩
        case round =>
          clear XN XR rN rX rY rM B
          obtain ⟨k, hk, rfl, rfl, rfl, XN, XR, rN, rX, rY, rM, B⟩ := hrel
          by_cases hlt : k < ny
          · have hi : (k : Int) < (ny : Int) := by omega
            obtain ⟨pA, cA, a1, rA⟩ := RdMirrorS.at2 rX HN.out.1 hlt
            obtain ⟨pE, cE, a2, rE⟩ := RdMirrorS.at2 rY HN.out.2 hlt
            have HA : Hid (alV xs ys (k + 1) = ((alV xs ys k && isAlikeR (xs.getD k zM).xQ (xs.getD k zM).xViews (-1)) && isAlikeR (ys.getD k zM).xQ (ys.getD k zM).xViews (-1))) := rfl
            have HS : Hid (sumV xs ys (k + 1) = sumV xs ys k + (valueR (xs.getD k zM).xQ (xs.getD k zM).xViews (-1)).xValue * (valueR (ys.getD k zM).xQ (ys.getD k zM).xViews (-1)).xValue) := rfl
            have hb1 := sumV_bd HOK.out.okx HOK.out.oky k (by omega)
            have hb2 := sumV_bd HOK.out.okx HOK.out.oky (k + 1) (by omega)
            have hv1 := vl_bd (HOK.out.okx k hlt)
            have hv2 := vl_bd (HOK.out.oky k hlt)
            unfold vl at hv1 hv2
            rw [HS.out] at hb2
            have hv3 := Int.mul_nonneg hv1.1 hv2.1
            have hv4 : (valueR (xs.getD k zM).xQ (xs.getD k zM).xViews (-1)).xValue * (valueR (ys.getD k zM).xQ (ys.getD k zM).xViews (-1)).xValue ≤ 255 * 255 := Int.mul_le_mul hv1.2 hv2.2 hv2.1 (by omega)
            have KA1 := fun W h => impl_IsAlike (.agg #[.int .i64 (xs.getD k zM).xQ, .slice pA (xs.getD k zM).xViews.length cA]) (xs.getD k zM) (-1) W h
            have KA2 := fun W h => impl_IsAlike (.agg #[.int .i64 (ys.getD k zM).xQ, .slice pE (ys.getD k zM).xViews.length cE]) (ys.getD k zM) (-1) W h
            have KV1 := fun W h => impl_ValueOf (.agg #[.int .i64 (xs.getD k zM).xQ, .slice pA (xs.getD k zM).xViews.length cA]) (xs.getD k zM) (-1) W h
            have KV2 := fun W h => impl_ValueOf (.agg #[.int .i64 (ys.getD k zM).xQ, .slice pE (ys.getD k zM).xViews.length cE]) (ys.getD k zM) (-1) W h
            generalize isAlikeR (xs.getD k zM).xQ (xs.getD k zM).xViews (-1) = bA at *
            generalize isAlikeR (ys.getD k zM).xQ (ys.getD k zM).xViews (-1) = bE at *
            generalize valueR (xs.getD k zM).xQ (xs.getD k zM).xViews (-1) = VA at *
            generalize valueR (ys.getD k zM).xQ (ys.getD k zM).xViews (-1) = VE at *
            generalize xs.getD k zM = A at *
            generalize ys.getD k zM = E at *
            generalize hsk : sumV xs ys k = sk at *
            have ew1 : IntKind.i64.wrap (VA.xValue * VE.xValue) = VA.xValue * VE.xValue := by rw [IntKind.wrap_i64]; omega
            have ew2 : IntKind.i64.wrap (sk + VA.xValue * VE.xValue) = sk + VA.xValue * VE.xValue := by rw [IntKind.wrap_i64]; omega
            generalize hak : alV xs ys k = ak at *
            clear hsk hak hb1 hb2 hv1 hv2 hv3 hv4 hlt
            cases ak
            · as_aux_lemma =>
                have a1c := a1.2.1
                have a1d := a1.2.2
                have a2c := a2.2.1
                have a2d := a2.2.2
                have a1l := a1.1
                have a2l := a2.1
                go_wp2_with fail
                clear a1c a1d a2c a2d a1l a2l
                refine wp_region_held (S := fun V => (V.cell? ⟨gx, ox + k * 2, none⟩ = some (.int .i64 A.xQ) ∧ V.cell? ⟨gx, ox + k * 2 + 1, none⟩ = some (.slice pA A.xViews.length cA)) ∧ (V.cell? ⟨gy, oy + k * 2, none⟩ = some (.int .i64 E.xQ) ∧ V.cell? ⟨gy, oy + k * 2 + 1, none⟩ = some (.slice pE E.xViews.length cE))) (by kernel_rfl) ?_
                try (change wpAnyH _ _ _ _ _ _ _ _ (World.drew _))
                replace XN := XN.drew
                replace XR := XR.drew
                replace rN := rN.below (Below.refl _ _).drew
                replace rX := rX.below (Below.refl _ _).drew
                replace rY := rY.below (Below.refl _ _).drew
                replace rM := rM.below (Below.refl _ _).drew
                replace a1 := a1.below (Below.refl _ _).drew
                replace rA := rA.below (Below.refl _ _).drew
                replace a2 := a2.below (Below.refl _ _).drew
                replace rE := rE.below (Below.refl _ _).drew
                replace B := B.drew
                have hS : (wr.drew.cell? ⟨gx, ox + k * 2, none⟩ = some (.int .i64 A.xQ) ∧ wr.drew.cell? ⟨gx, ox + k * 2 + 1, none⟩ = some (.slice pA A.xViews.length cA)) ∧ (wr.drew.cell? ⟨gy, oy + k * 2, none⟩ = some (.int .i64 E.xQ) ∧ wr.drew.cell? ⟨gy, oy + k * 2 + 1, none⟩ = some (.slice pE E.xViews.length cE)) := ⟨a1.2, a2.2⟩
                refine wpAnyH_take (i := 0) (v := ?vn222) rfl (by kernel_rfl) (by kernel_rfl) (by kernel_rfl) (fun _ _ _ h => h) (Or.inl ⟨by rfl, ?hn222⟩) hS ?rn222
                case hn222 => intro w' hSw; go_simp; (try with_reducible rfl)
                (try simp only [List.getElem_toArray]); (try simp only [List.getElem_cons_succ]); (try simp only [List.getElem_cons_zero]); (try simp only [Act.put]); (try simp only [List.setIfInBounds_toArray]); (try simp only [List.set_cons_succ]); (try simp only [List.set_cons_zero])
                refine wpAnyH_take (i := 1) (v := ?vn223) rfl (by kernel_rfl) (by kernel_rfl) (by kernel_rfl) (fun _ _ _ h => h) (Or.inl ⟨by rfl, ?hn223⟩) hS ?rn223
                case hn223 => intro w' hSw; go_simp; (try with_reducible rfl)
                (try simp only [List.getElem_toArray]); (try simp only [List.getElem_cons_succ]); (try simp only [List.getElem_cons_zero]); (try simp only [Act.put]); (try simp only [List.setIfInBounds_toArray]); (try simp only [List.set_cons_succ]); (try simp only [List.set_cons_zero])
                refine wpAnyH_take (i := 2) (v := ?vn224) rfl (by kernel_rfl) (by kernel_rfl) (by kernel_rfl) (fun _ _ _ h => h) (Or.inl ⟨by rfl, ?hn224⟩) hS ?rn224
                case hn224 => intro w' hSw; go_simp; (try with_reducible rfl)
                (try simp only [List.getElem_toArray]); (try simp only [List.getElem_cons_succ]); (try simp only [List.getElem_cons_zero]); (try simp only [Act.put]); (try simp only [List.setIfInBounds_toArray]); (try simp only [List.set_cons_succ]); (try simp only [List.set_cons_zero])
                refine wpAnyH_take (i := 3) (v := ?vn225) rfl (by kernel_rfl) (by kernel_rfl) (by kernel_rfl) (fun _ _ _ h => h) (Or.inl ⟨by rfl, ?hn225⟩) hS ?rn225
                case hn225 => intro w' hSw; go_simp; (try with_reducible rfl)
                (try simp only [List.getElem_toArray]); (try simp only [List.getElem_cons_succ]); (try simp only [List.getElem_cons_zero]); (try simp only [Act.put]); (try simp only [List.setIfInBounds_toArray]); (try simp only [List.set_cons_succ]); (try simp only [List.set_cons_zero])
                refine wpAnyH_take (i := 4) (v := ?vn226) rfl (by kernel_rfl) (by kernel_rfl) (by kernel_rfl) (fun _ _ _ h => h) (Or.inl ⟨by rfl, ?hn226⟩) hS ?rn226
                case hn226 => intro w' hSw; go_simp; (try with_reducible rfl)
                (try simp only [List.getElem_toArray]); (try simp only [List.getElem_cons_succ]); (try simp only [List.getElem_cons_zero]); (try simp only [Act.put]); (try simp only [List.setIfInBounds_toArray]); (try simp only [List.set_cons_succ]); (try simp only [List.set_cons_zero])
                refine wpAnyH_take (i := 7) (v := ?vn227) rfl (by kernel_rfl) (by kernel_rfl) (by kernel_rfl) (fun _ _ _ h => h) (Or.inl ⟨by rfl, ?hn227⟩) hS ?rn227
                case hn227 => intro w' hSw; go_simp; (try with_reducible rfl)
                (try simp only [List.getElem_toArray]); (try simp only [List.getElem_cons_succ]); (try simp only [List.getElem_cons_zero]); (try simp only [Act.put]); (try simp only [List.setIfInBounds_toArray]); (try simp only [List.set_cons_succ]); (try simp only [List.set_cons_zero])
                refine wpAnyH_take (i := 8) (v := ?vn228) rfl (by kernel_rfl) (by kernel_rfl) (by kernel_rfl) (fun _ _ _ h => h) (Or.inl ⟨by rfl, ?hn228⟩) hS ?rn228
                case hn228 => intro w' hSw; go_simp; (try with_reducible rfl)
                (try simp only [List.getElem_toArray]); (try simp only [List.getElem_cons_succ]); (try simp only [List.getElem_cons_zero]); (try simp only [Act.put]); (try simp only [List.setIfInBounds_toArray]); (try simp only [List.set_cons_succ]); (try simp only [List.set_cons_zero])
                refine wpAnyH_take (i := 9) (v := ?vn229) rfl (by kernel_rfl) (by kernel_rfl) (by kernel_rfl) (fun _ _ _ h => h) (Or.inl ⟨by rfl, ?hn229⟩) hS ?rn229
                case hn229 => intro w' hSw; go_simp; (try with_reducible rfl)
                (try simp only [List.getElem_toArray]); (try simp only [List.getElem_cons_succ]); (try simp only [List.getElem_cons_zero]); (try simp only [Act.put]); (try simp only [List.setIfInBounds_toArray]); (try simp only [List.set_cons_succ]); (try simp only [List.set_cons_zero])
                refine wpAnyH_take (i := 10) (v := ?vn230) rfl (by kernel_rfl) (by kernel_rfl) (by kernel_rfl) (fun _ _ _ h => h) (Or.inl ⟨by rfl, ?hn230⟩) hS ?rn230
                case hn230 => intro w' hSw; go_simp; (try with_reducible rfl)
                (try simp only [List.getElem_toArray]); (try simp only [List.getElem_cons_succ]); (try simp only [List.getElem_cons_zero]); (try simp only [Act.put]); (try simp only [List.setIfInBounds_toArray]); (try simp only [List.set_cons_succ]); (try simp only [List.set_cons_zero])
                refine wpAnyH_ready (rs := [5]) (by kernel_rfl) (by simp) ?_
                refine AllReadyH.cons (o := _) rfl (fun K hK => ?_) AllReadyH.nil
                rw [if_pos (by rfl)]
                go_simp
                go_at_call 10
                clear hS
                refine (KV1 _ rA).mono ?_
                rintro e w3 ⟨u, rfl, rfl, k3⟩
                replace XN := XN.keep k3
                replace XR := XR.keep k3
                replace rN := rN.below k3
                replace rX := rX.below k3
                replace rY := rY.below k3
                replace rM := rM.below k3
                replace a1 := a1.below k3
                replace rA := rA.below k3
                replace a2 := a2.below k3
                replace rE := rE.below k3
                replace B := B.trans (k3.mono B.size)
                clear k3
                have hS : (w3.cell? ⟨gx, ox + k * 2, none⟩ = some (.int .i64 A.xQ) ∧ w3.cell? ⟨gx, ox + k * 2 + 1, none⟩ = some (.slice pA A.xViews.length cA)) ∧ (w3.cell? ⟨gy, oy + k * 2, none⟩ = some (.int .i64 E.xQ) ∧ w3.cell? ⟨gy, oy + k * 2 + 1, none⟩ = some (.slice pE E.xViews.length cE)) := ⟨a1.2, a2.2⟩
                refine hK.out _ _ hS (fun hS => ?_)
                clear hK K
                (try simp only [List.getElem_toArray]); (try simp only [List.getElem_cons_succ]); (try simp only [List.getElem_cons_zero]); (try simp only [Act.put]); (try simp only [List.setIfInBounds_toArray]); (try simp only [List.set_cons_succ]); (try simp only [List.set_cons_zero])
                refine wpAnyH_take (i := 6) (v := ?vn231) rfl (by kernel_rfl) (by kernel_rfl) (by kernel_rfl) (fun _ _ _ h => h) (Or.inl ⟨by rfl, ?hn231⟩) hS ?rn231
                case hn231 => intro w' hSw; go_simp; (try with_reducible rfl)
                (try simp only [List.getElem_toArray]); (try simp only [List.getElem_cons_succ]); (try simp only [List.getElem_cons_zero]); (try simp only [Act.put]); (try simp only [List.setIfInBounds_toArray]); (try simp only [List.set_cons_succ]); (try simp only [List.set_cons_zero])
                refine wpAnyH_ready (rs := [11]) (by kernel_rfl) (by simp) ?_
                refine AllReadyH.cons (o := _) rfl (fun K hK => ?_) AllReadyH.nil
                rw [if_pos (by rfl)]
                go_simp
                go_at_call 10
                clear hS
                refine (KV2 _ rE).mono ?_
                rintro e w4 ⟨u, rfl, rfl, k4⟩
                replace XN := XN.keep k4
                replace XR := XR.keep k4
                replace rN := rN.below k4
                replace rX := rX.below k4
                replace rY := rY.below k4
                replace rM := rM.below k4
                replace a1 := a1.below k4
                replace rA := rA.below k4
                replace a2 := a2.below k4
                replace rE := rE.below k4
                replace B := B.trans (k4.mono B.size)
                clear k4
                have hS : (w4.cell? ⟨gx, ox + k * 2, none⟩ = some (.int .i64 A.xQ) ∧ w4.cell? ⟨gx, ox + k * 2 + 1, none⟩ = some (.slice pA A.xViews.length cA)) ∧ (w4.cell? ⟨gy, oy + k * 2, none⟩ = some (.int .i64 E.xQ) ∧ w4.cell? ⟨gy, oy + k * 2 + 1, none⟩ = some (.slice pE E.xViews.length cE)) := ⟨a1.2, a2.2⟩
                refine hK.out _ _ hS (fun hS => ?_)
                clear hK K
                (try simp only [List.getElem_toArray]); (try simp only [List.getElem_cons_succ]); (try simp only [List.getElem_cons_zero]); (try simp only [Act.put]); (try simp only [List.setIfInBounds_toArray]); (try simp only [List.set_cons_succ]); (try simp only [List.set_cons_zero])
                refine wpAnyH_take (i := 12) (v := ?vn232) rfl (by kernel_rfl) (by kernel_rfl) (by kernel_rfl) (fun _ _ _ h => h) (Or.inl ⟨by rfl, ?hn232⟩) hS ?rn232
                case hn232 => intro w' hSw; go_simp; (try with_reducible rfl)
                (try simp only [List.getElem_toArray]); (try simp only [List.getElem_cons_succ]); (try simp only [List.getElem_cons_zero]); (try simp only [Act.put]); (try simp only [List.setIfInBounds_toArray]); (try simp only [List.set_cons_succ]); (try simp only [List.set_cons_zero])
                refine wpAnyH_take (i := 13) (v := ?vn233) rfl (by kernel_rfl) (by kernel_rfl) (by kernel_rfl) (fun _ _ _ h => h) (Or.inl ⟨by rfl, ?hn233⟩) hS ?rn233
                case hn233 => intro w' hSw; go_simp; (try with_reducible rfl)
                (try simp only [List.getElem_toArray]); (try simp only [List.getElem_cons_succ]); (try simp only [List.getElem_cons_zero]); (try simp only [Act.put]); (try simp only [List.setIfInBounds_toArray]); (try simp only [List.set_cons_succ]); (try simp only [List.set_cons_zero])
                refine wpAnyH_take (i := 14) (v := ?vn234) rfl (by kernel_rfl) (by kernel_rfl) (by kernel_rfl) (fun _ _ _ h => h) (Or.inl ⟨by rfl, ?hn234⟩) hS ?rn234
                case hn234 => intro w' hSw; go_simp; (try with_reducible rfl)
                (try simp only [List.getElem_toArray]); (try simp only [List.getElem_cons_succ]); (try simp only [List.getElem_cons_zero]); (try simp only [Act.put]); (try simp only [List.setIfInBounds_toArray]); (try simp only [List.set_cons_succ]); (try simp only [List.set_cons_zero])
                refine wpAnyH_take (i := 15) (v := ?vn235) rfl (by kernel_rfl) (by kernel_rfl) (by kernel_rfl) (fun _ _ _ h => h) (Or.inl ⟨by rfl, ?hn235⟩) hS ?rn235
                case hn235 => intro w' hSw; go_simp; (try with_reducible rfl)
                (try simp only [List.getElem_toArray]); (try simp only [List.getElem_cons_succ]); (try simp only [List.getElem_cons_zero]); (try simp only [Act.put]); (try simp only [List.setIfInBounds_toArray]); (try simp only [List.set_cons_succ]); (try simp only [List.set_cons_zero])
                refine wpAnyH_done (by kernel_rfl) ?_ _
                clear hS
                go_wp2
                go_roundw
                case rel => exact ⟨k + 1, by omega, by rw [HS.out], by rw [HA.out]; rfl, by go_num, XN, XR, rN, rX, rY, rM, B⟩
                case measure => simp [intOf]; omega
            · as_aux_lemma =>
                have a1c := a1.2.1
                have a1d := a1.2.2
                have a2c := a2.2.1
                have a2d := a2.2.2
                have a1l := a1.1
                have a2l := a2.1
                go_wp2_with fail
                clear a1c a1d a2c a2d a1l a2l
                refine (KA1 _ rA).mono ?_
                rintro e w5 ⟨rfl, k5⟩
                replace XN := XN.keep k5
                replace XR := XR.keep k5
                replace rN := rN.below k5
                replace rX := rX.below k5
                replace rY := rY.below k5
                replace rM := rM.below k5
                replace a1 := a1.below k5
                replace rA := rA.below k5
                replace a2 := a2.below k5
                replace rE := rE.below k5
                replace B := B.trans (k5.mono B.size)
                clear k5
                cases bA
                · as_aux_lemma =>
                    have a1c := a1.2.1
                    have a1d := a1.2.2
                    have a2c := a2.2.1
                    have a2d := a2.2.2
                    have a1l := a1.1
                    have a2l := a2.1
                    go_wp2_with fail
                    clear a1c a1d a2c a2d a1l a2l
                    refine wp_region_held (S := fun V => (V.cell? ⟨gx, ox + k * 2, none⟩ = some (.int .i64 A.xQ) ∧ V.cell? ⟨gx, ox + k * 2 + 1, none⟩ = some (.slice pA A.xViews.length cA)) ∧ (V.cell? ⟨gy, oy + k * 2, none⟩ = some (.int .i64 E.xQ) ∧ V.cell? ⟨gy, oy + k * 2 + 1, none⟩ = some (.slice pE E.xViews.length cE))) (by kernel_rfl) ?_
                    try (change wpAnyH _ _ _ _ _ _ _ _ (World.drew _))
                    replace XN := XN.drew
                    replace XR := XR.drew
                    replace rN := rN.below (Below.refl _ _).drew
                    replace rX := rX.below (Below.refl _ _).drew
                    replace rY := rY.below (Below.refl _ _).drew
                    replace rM := rM.below (Below.refl _ _).drew
                    replace a1 := a1.below (Below.refl _ _).drew
                    replace rA := rA.below (Below.refl _ _).drew
                    replace a2 := a2.below (Below.refl _ _).drew
                    replace rE := rE.below (Below.refl _ _).drew
                    replace B := B.drew
                    have hS : (w5.drew.cell? ⟨gx, ox + k * 2, none⟩ = some (.int .i64 A.xQ) ∧ w5.drew.cell? ⟨gx, ox + k * 2 + 1, none⟩ = some (.slice pA A.xViews.length cA)) ∧ (w5.drew.cell? ⟨gy, oy + k * 2, none⟩ = some (.int .i64 E.xQ) ∧ w5.drew.cell? ⟨gy, oy + k * 2 + 1, none⟩ = some (.slice pE E.xViews.length cE)) := ⟨a1.2, a2.2⟩
                    refine wpAnyH_take (i := 0) (v := ?vn236) rfl (by kernel_rfl) (by kernel_rfl) (by kernel_rfl) (fun _ _ _ h => h) (Or.inl ⟨by rfl, ?hn236⟩) hS ?rn236
                    case hn236 => intro w' hSw; go_simp; (try with_reducible rfl)
                    (try simp only [List.getElem_toArray]); (try simp only [List.getElem_cons_succ]); (try simp only [List.getElem_cons_zero]); (try simp only [Act.put]); (try simp only [List.setIfInBounds_toArray]); (try simp only [List.set_cons_succ]); (try simp only [List.set_cons_zero])
                    refine wpAnyH_take (i := 1) (v := ?vn237) rfl (by kernel_rfl) (by kernel_rfl) (by kernel_rfl) (fun _ _ _ h => h) (Or.inl ⟨by rfl, ?hn237⟩) hS ?rn237
                    case hn237 => intro w' hSw; go_simp; (try with_reducible rfl)
                    (try simp only [List.getElem_toArray]); (try simp only [List.getElem_cons_succ]); (try simp only [List.getElem_cons_zero]); (try simp only [Act.put]); (try simp only [List.setIfInBounds_toArray]); (try simp only [List.set_cons_succ]); (try simp only [List.set_cons_zero])
                    refine wpAnyH_take (i := 2) (v := ?vn238) rfl (by kernel_rfl) (by kernel_rfl) (by kernel_rfl) (fun _ _ _ h => h) (Or.inl ⟨by rfl, ?hn238⟩) hS ?rn238
                    case hn238 => intro w' hSw; go_simp; (try with_reducible rfl)
                    (try simp only [List.getElem_toArray]); (try simp only [List.getElem_cons_succ]); (try simp only [List.getElem_cons_zero]); (try simp only [Act.put]); (try simp only [List.setIfInBounds_toArray]); (try simp only [List.set_cons_succ]); (try simp only [List.set_cons_zero])
                    refine wpAnyH_take (i := 3) (v := ?vn239) rfl (by kernel_rfl) (by kernel_rfl) (by kernel_rfl) (fun _ _ _ h => h) (Or.inl ⟨by rfl, ?hn239⟩) hS ?rn239
                    case hn239 => intro w' hSw; go_simp; (try with_reducible rfl)
                    (try simp only [List.getElem_toArray]); (try simp only [List.getElem_cons_succ]); (try simp only [List.getElem_cons_zero]); (try simp only [Act.put]); (try simp only [List.setIfInBounds_toArray]); (try simp only [List.set_cons_succ]); (try simp only [List.set_cons_zero])
                    refine wpAnyH_take (i := 4) (v := ?vn240) rfl (by kernel_rfl) (by kernel_rfl) (by kernel_rfl) (fun _ _ _ h => h) (Or.inl ⟨by rfl, ?hn240⟩) hS ?rn240
                    case hn240 => intro w' hSw; go_simp; (try with_reducible rfl)
                    (try simp only [List.getElem_toArray]); (try simp only [List.getElem_cons_succ]); (try simp only [List.getElem_cons_zero]); (try simp only [Act.put]); (try simp only [List.setIfInBounds_toArray]); (try simp only [List.set_cons_succ]); (try simp only [List.set_cons_zero])
                    refine wpAnyH_take (i := 7) (v := ?vn241) rfl (by kernel_rfl) (by kernel_rfl) (by kernel_rfl) (fun _ _ _ h => h) (Or.inl ⟨by rfl, ?hn241⟩) hS ?rn241
                    case hn241 => intro w' hSw; go_simp; (try with_reducible rfl)
                    (try simp only [List.getElem_toArray]); (try simp only [List.getElem_cons_succ]); (try simp only [List.getElem_cons_zero]); (try simp only [Act.put]); (try simp only [List.setIfInBounds_toArray]); (try simp only [List.set_cons_succ]); (try simp only [List.set_cons_zero])
                    refine wpAnyH_take (i := 8) (v := ?vn242) rfl (by kernel_rfl) (by kernel_rfl) (by kernel_rfl) (fun _ _ _ h => h) (Or.inl ⟨by rfl, ?hn242⟩) hS ?rn242
                    case hn242 => intro w' hSw; go_simp; (try with_reducible rfl)
                    (try simp only [List.getElem_toArray]); (try simp only [List.getElem_cons_succ]); (try simp only [List.getElem_cons_zero]); (try simp only [Act.put]); (try simp only [List.setIfInBounds_toArray]); (try simp only [List.set_cons_succ]); (try simp only [List.set_cons_zero])
                    refine wpAnyH_take (i := 9) (v := ?vn243) rfl (by kernel_rfl) (by kernel_rfl) (by kernel_rfl) (fun _ _ _ h => h) (Or.inl ⟨by rfl, ?hn243⟩) hS ?rn243
                    case hn243 => intro w' hSw; go_simp; (try with_reducible rfl)
                    (try simp only [List.getElem_toArray]); (try simp only [List.getElem_cons_succ]); (try simp only [List.getElem_cons_zero]); (try simp only [Act.put]); (try simp only [List.setIfInBounds_toArray]); (try simp only [List.set_cons_succ]); (try simp only [List.set_cons_zero])
                    refine wpAnyH_take (i := 10) (v := ?vn244) rfl (by kernel_rfl) (by kernel_rfl) (by kernel_rfl) (fun _ _ _ h => h) (Or.inl ⟨by rfl, ?hn244⟩) hS ?rn244
                    case hn244 => intro w' hSw; go_simp; (try with_reducible rfl)
                    (try simp only [List.getElem_toArray]); (try simp only [List.getElem_cons_succ]); (try simp only [List.getElem_cons_zero]); (try simp only [Act.put]); (try simp only [List.setIfInBounds_toArray]); (try simp only [List.set_cons_succ]); (try simp only [List.set_cons_zero])
                    refine wpAnyH_ready (rs := [5]) (by kernel_rfl) (by simp) ?_
                    refine AllReadyH.cons (o := _) rfl (fun K hK => ?_) AllReadyH.nil
                    rw [if_pos (by rfl)]
                    go_simp
                    go_at_call 10
                    clear hS
                    refine (KV1 _ rA).mono ?_
                    rintro e w6 ⟨u, rfl, rfl, k6⟩
                    replace XN := XN.keep k6
                    replace XR := XR.keep k6
                    replace rN := rN.below k6
                    replace rX := rX.below k6
                    replace rY := rY.below k6
                    replace rM := rM.below k6
                    replace a1 := a1.below k6
                    replace rA := rA.below k6
                    replace a2 := a2.below k6
                    replace rE := rE.below k6
                    replace B := B.trans (k6.mono B.size)
                    clear k6
                    have hS : (w6.cell? ⟨gx, ox + k * 2, none⟩ = some (.int .i64 A.xQ) ∧ w6.cell? ⟨gx, ox + k * 2 + 1, none⟩ = some (.slice pA A.xViews.length cA)) ∧ (w6.cell? ⟨gy, oy + k * 2, none⟩ = some (.int .i64 E.xQ) ∧ w6.cell? ⟨gy, oy + k * 2 + 1, none⟩ = some (.slice pE E.xViews.length cE)) := ⟨a1.2, a2.2⟩
                    refine hK.out _ _ hS (fun hS => ?_)
                    clear hK K
                    (try simp only [List.getElem_toArray]); (try simp only [List.getElem_cons_succ]); (try simp only [List.getElem_cons_zero]); (try simp only [Act.put]); (try simp only [List.setIfInBounds_toArray]); (try simp only [List.set_cons_succ]); (try simp only [List.set_cons_zero])
                    refine wpAnyH_take (i := 6) (v := ?vn245) rfl (by kernel_rfl) (by kernel_rfl) (by kernel_rfl) (fun _ _ _ h => h) (Or.inl ⟨by rfl, ?hn245⟩) hS ?rn245
                    case hn245 => intro w' hSw; go_simp; (try with_reducible rfl)
                    (try simp only [List.getElem_toArray]); (try simp only [List.getElem_cons_succ]); (try simp only [List.getElem_cons_zero]); (try simp only [Act.put]); (try simp only [List.setIfInBounds_toArray]); (try simp only [List.set_cons_succ]); (try simp only [List.set_cons_zero])
                    refine wpAnyH_ready (rs := [11]) (by kernel_rfl) (by simp) ?_
                    refine AllReadyH.cons (o := _) rfl (fun K hK => ?_) AllReadyH.nil
                    rw [if_pos (by rfl)]
                    go_simp
                    go_at_call 10
                    clear hS
                    refine (KV2 _ rE).mono ?_
                    rintro e w7 ⟨u, rfl, rfl, k7⟩
                    replace XN := XN.keep k7
                    replace XR := XR.keep k7
                    replace rN := rN.below k7
                    replace rX := rX.below k7
                    replace rY := rY.below k7
                    replace rM := rM.below k7
                    replace a1 := a1.below k7
                    replace rA := rA.below k7
                    replace a2 := a2.below k7
                    replace rE := rE.below k7
                    replace B := B.trans (k7.mono B.size)
                    clear k7
                    have hS : (w7.cell? ⟨gx, ox + k * 2, none⟩ = some (.int .i64 A.xQ) ∧ w7.cell? ⟨gx, ox + k * 2 + 1, none⟩ = some (.slice pA A.xViews.length cA)) ∧ (w7.cell? ⟨gy, oy + k * 2, none⟩ = some (.int .i64 E.xQ) ∧ w7.cell? ⟨gy, oy + k * 2 + 1, none⟩ = some (.slice pE E.xViews.length cE)) := ⟨a1.2, a2.2⟩
                    refine hK.out _ _ hS (fun hS => ?_)
                    clear hK K
                    (try simp only [List.getElem_toArray]); (try simp only [List.getElem_cons_succ]); (try simp only [List.getElem_cons_zero]); (try simp only [Act.put]); (try simp only [List.setIfInBounds_toArray]); (try simp only [List.set_cons_succ]); (try simp only [List.set_cons_zero])
                    refine wpAnyH_take (i := 12) (v := ?vn246) rfl (by kernel_rfl) (by kernel_rfl) (by kernel_rfl) (fun _ _ _ h => h) (Or.inl ⟨by rfl, ?hn246⟩) hS ?rn246
                    case hn246 => intro w' hSw; go_simp; (try with_reducible rfl)
                    (try simp only [List.getElem_toArray]); (try simp only [List.getElem_cons_succ]); (try simp only [List.getElem_cons_zero]); (try simp only [Act.put]); (try simp only [List.setIfInBounds_toArray]); (try simp only [List.set_cons_succ]); (try simp only [List.set_cons_zero])
                    refine wpAnyH_take (i := 13) (v := ?vn247) rfl (by kernel_rfl) (by kernel_rfl) (by kernel_rfl) (fun _ _ _ h => h) (Or.inl ⟨by rfl, ?hn247⟩) hS ?rn247
                    case hn247 => intro w' hSw; go_simp; (try with_reducible rfl)
                    (try simp only [List.getElem_toArray]); (try simp only [List.getElem_cons_succ]); (try simp only [List.getElem_cons_zero]); (try simp only [Act.put]); (try simp only [List.setIfInBounds_toArray]); (try simp only [List.set_cons_succ]); (try simp only [List.set_cons_zero])
                    refine wpAnyH_take (i := 14) (v := ?vn248) rfl (by kernel_rfl) (by kernel_rfl) (by kernel_rfl) (fun _ _ _ h => h) (Or.inl ⟨by rfl, ?hn248⟩) hS ?rn248
                    case hn248 => intro w' hSw; go_simp; (try with_reducible rfl)
                    (try simp only [List.getElem_toArray]); (try simp only [List.getElem_cons_succ]); (try simp only [List.getElem_cons_zero]); (try simp only [Act.put]); (try simp only [List.setIfInBounds_toArray]); (try simp only [List.set_cons_succ]); (try simp only [List.set_cons_zero])
                    refine wpAnyH_take (i := 15) (v := ?vn249) rfl (by kernel_rfl) (by kernel_rfl) (by kernel_rfl) (fun _ _ _ h => h) (Or.inl ⟨by rfl, ?hn249⟩) hS ?rn249
                    case hn249 => intro w' hSw; go_simp; (try with_reducible rfl)
                    (try simp only [List.getElem_toArray]); (try simp only [List.getElem_cons_succ]); (try simp only [List.getElem_cons_zero]); (try simp only [Act.put]); (try simp only [List.setIfInBounds_toArray]); (try simp only [List.set_cons_succ]); (try simp only [List.set_cons_zero])
                    refine wpAnyH_done (by kernel_rfl) ?_ _
                    clear hS
                    go_wp2
                    go_roundw
                    case rel => exact ⟨k + 1, by omega, by rw [HS.out], by rw [HA.out]; rfl, by go_num, XN, XR, rN, rX, rY, rM, B⟩
                    case measure => simp [intOf]; omega
                · as_aux_lemma =>
                    have a1c := a1.2.1
                    have a1d := a1.2.2
                    have a2c := a2.2.1
                    have a2d := a2.2.2
                    have a1l := a1.1
                    have a2l := a2.1
                    go_wp2_with fail
                    clear a1c a1d a2c a2d a1l a2l
                    refine (KA2 _ rE).mono ?_
                    rintro e w8 ⟨rfl, k8⟩
                    replace XN := XN.keep k8
                    replace XR := XR.keep k8
                    replace rN := rN.below k8
                    replace rX := rX.below k8
                    replace rY := rY.below k8
                    replace rM := rM.below k8
                    replace a1 := a1.below k8
                    replace rA := rA.below k8
                    replace a2 := a2.below k8
                    replace rE := rE.below k8
                    replace B := B.trans (k8.mono B.size)
                    clear k8
                    cases bE
                    · as_aux_lemma =>
                        have a1c := a1.2.1
                        have a1d := a1.2.2
                        have a2c := a2.2.1
                        have a2d := a2.2.2
                        have a1l := a1.1
                        have a2l := a2.1
                        go_wp2_with fail
                        clear a1c a1d a2c a2d a1l a2l
                        refine wp_region_held (S := fun V => (V.cell? ⟨gx, ox + k * 2, none⟩ = some (.int .i64 A.xQ) ∧ V.cell? ⟨gx, ox + k * 2 + 1, none⟩ = some (.slice pA A.xViews.length cA)) ∧ (V.cell? ⟨gy, oy + k * 2, none⟩ = some (.int .i64 E.xQ) ∧ V.cell? ⟨gy, oy + k * 2 + 1, none⟩ = some (.slice pE E.xViews.length cE))) (by kernel_rfl) ?_
                        try (change wpAnyH _ _ _ _ _ _ _ _ (World.drew _))
                        replace XN := XN.drew
                        replace XR := XR.drew
                        replace rN := rN.below (Below.refl _ _).drew
                        replace rX := rX.below (Below.refl _ _).drew
                        replace rY := rY.below (Below.refl _ _).drew
                        replace rM := rM.below (Below.refl _ _).drew
                        replace a1 := a1.below (Below.refl _ _).drew
                        replace rA := rA.below (Below.refl _ _).drew
                        replace a2 := a2.below (Below.refl _ _).drew
                        replace rE := rE.below (Below.refl _ _).drew
                        replace B := B.drew
                        have hS : (w8.drew.cell? ⟨gx, ox + k * 2, none⟩ = some (.int .i64 A.xQ) ∧ w8.drew.cell? ⟨gx, ox + k * 2 + 1, none⟩ = some (.slice pA A.xViews.length cA)) ∧ (w8.drew.cell? ⟨gy, oy + k * 2, none⟩ = some (.int .i64 E.xQ) ∧ w8.drew.cell? ⟨gy, oy + k * 2 + 1, none⟩ = some (.slice pE E.xViews.length cE)) := ⟨a1.2, a2.2⟩
                        refine wpAnyH_take (i := 0) (v := ?vn250) rfl (by kernel_rfl) (by kernel_rfl) (by kernel_rfl) (fun _ _ _ h => h) (Or.inl ⟨by rfl, ?hn250⟩) hS ?rn250
                        case hn250 => intro w' hSw; go_simp; (try with_reducible rfl)
                        (try simp only [List.getElem_toArray]); (try simp only [List.getElem_cons_succ]); (try simp only [List.getElem_cons_zero]); (try simp only [Act.put]); (try simp only [List.setIfInBounds_toArray]); (try simp only [List.set_cons_succ]); (try simp only [List.set_cons_zero])
                        refine wpAnyH_take (i := 1) (v := ?vn251) rfl (by kernel_rfl) (by kernel_rfl) (by kernel_rfl) (fun _ _ _ h => h) (Or.inl ⟨by rfl, ?hn251⟩) hS ?rn251
                        case hn251 => intro w' hSw; go_simp; (try with_reducible rfl)
                        (try simp only [List.getElem_toArray]); (try simp only [List.getElem_cons_succ]); (try simp only [List.getElem_cons_zero]); (try simp only [Act.put]); (try simp only [List.setIfInBounds_toArray]); (try simp only [List.set_cons_succ]); (try simp only [List.set_cons_zero])
                        refine wpAnyH_take (i := 2) (v := ?vn252) rfl (by kernel_rfl) (by kernel_rfl) (by kernel_rfl) (fun _ _ _ h => h) (Or.inl ⟨by rfl, ?hn252⟩) hS ?rn252
                        case hn252 => intro w' hSw; go_simp; (try with_reducible rfl)
                        (try simp only [List.getElem_toArray]); (try simp only [List.getElem_cons_succ]); (try simp only [List.getElem_cons_zero]); (try simp only [Act.put]); (try simp only [List.setIfInBounds_toArray]); (try simp only [List.set_cons_succ]); (try simp only [List.set_cons_zero])
                        refine wpAnyH_take (i := 3) (v := ?vn253) rfl (by kernel_rfl) (by kernel_rfl) (by kernel_rfl) (fun _ _ _ h => h) (Or.inl ⟨by rfl, ?hn253⟩) hS ?rn253
                        case hn253 => intro w' hSw; go_simp; (try with_reducible rfl)
                        (try simp only [List.getElem_toArray]); (try simp only [List.getElem_cons_succ]); (try simp only [List.getElem_cons_zero]); (try simp only [Act.put]); (try simp only [List.setIfInBounds_toArray]); (try simp only [List.set_cons_succ]); (try simp only [List.set_cons_zero])
                        refine wpAnyH_take (i := 4) (v := ?vn254) rfl (by kernel_rfl) (by kernel_rfl) (by kernel_rfl) (fun _ _ _ h => h) (Or.inl ⟨by rfl, ?hn254⟩) hS ?rn254
                        case hn254 => intro w' hSw; go_simp; (try with_reducible rfl)
                        (try simp only [List.getElem_toArray]); (try simp only [List.getElem_cons_succ]); (try simp only [List.getElem_cons_zero]); (try simp only [Act.put]); (try simp only [List.setIfInBounds_toArray]); (try simp only [List.set_cons_succ]); (try simp only [List.set_cons_zero])
                        refine wpAnyH_take (i := 7) (v := ?vn255) rfl (by kernel_rfl) (by kernel_rfl) (by kernel_rfl) (fun _ _ _ h => h) (Or.inl ⟨by rfl, ?hn255⟩) hS ?rn255
                        case hn255 => intro w' hSw; go_simp; (try with_reducible rfl)
                        (try simp only [List.getElem_toArray]); (try simp only [List.getElem_cons_succ]); (try simp only [List.getElem_cons_zero]); (try simp only [Act.put]); (try simp only [List.setIfInBounds_toArray]); (try simp only [List.set_cons_succ]); (try simp only [List.set_cons_zero])
                        refine wpAnyH_take (i := 8) (v := ?vn256) rfl (by kernel_rfl) (by kernel_rfl) (by kernel_rfl) (fun _ _ _ h => h) (Or.inl ⟨by rfl, ?hn256⟩) hS ?rn256
                        case hn256 => intro w' hSw; go_simp; (try with_reducible rfl)
                        (try simp only [List.getElem_toArray]); (try simp only [List.getElem_cons_succ]); (try simp only [List.getElem_cons_zero]); (try simp only [Act.put]); (try simp only [List.setIfInBounds_toArray]); (try simp only [List.set_cons_succ]); (try simp only [List.set_cons_zero])
                        refine wpAnyH_take (i := 9) (v := ?vn257) rfl (by kernel_rfl) (by kernel_rfl) (by kernel_rfl) (fun _ _ _ h => h) (Or.inl ⟨by rfl, ?hn257⟩) hS ?rn257
                        case hn257 => intro w' hSw; go_simp; (try with_reducible rfl)
                        (try simp only [List.getElem_toArray]); (try simp only [List.getElem_cons_succ]); (try simp only [List.getElem_cons_zero]); (try simp only [Act.put]); (try simp only [List.setIfInBounds_toArray]); (try simp only [List.set_cons_succ]); (try simp only [List.set_cons_zero])
                        refine wpAnyH_take (i := 10) (v := ?vn258) rfl (by kernel_rfl) (by kernel_rfl) (by kernel_rfl) (fun _ _ _ h => h) (Or.inl ⟨by rfl, ?hn258⟩) hS ?rn258
                        case hn258 => intro w' hSw; go_simp; (try with_reducible rfl)
                        (try simp only [List.getElem_toArray]); (try simp only [List.getElem_cons_succ]); (try simp only [List.getElem_cons_zero]); (try simp only [Act.put]); (try simp only [List.setIfInBounds_toArray]); (try simp only [List.set_cons_succ]); (try simp only [List.set_cons_zero])
                        refine wpAnyH_ready (rs := [5]) (by kernel_rfl) (by simp) ?_
                        refine AllReadyH.cons (o := _) rfl (fun K hK => ?_) AllReadyH.nil
                        rw [if_pos (by rfl)]
                        go_simp
                        go_at_call 10
                        clear hS
                        refine (KV1 _ rA).mono ?_
                        rintro e w9 ⟨u, rfl, rfl, k9⟩
                        replace XN := XN.keep k9
                        replace XR := XR.keep k9
                        replace rN := rN.below k9
                        replace rX := rX.below k9
                        replace rY := rY.below k9
                        replace rM := rM.below k9
                        replace a1 := a1.below k9
                        replace rA := rA.below k9
                        replace a2 := a2.below k9
                        replace rE := rE.below k9
                        replace B := B.trans (k9.mono B.size)
                        clear k9
                        have hS : (w9.cell? ⟨gx, ox + k * 2, none⟩ = some (.int .i64 A.xQ) ∧ w9.cell? ⟨gx, ox + k * 2 + 1, none⟩ = some (.slice pA A.xViews.length cA)) ∧ (w9.cell? ⟨gy, oy + k * 2, none⟩ = some (.int .i64 E.xQ) ∧ w9.cell? ⟨gy, oy + k * 2 + 1, none⟩ = some (.slice pE E.xViews.length cE)) := ⟨a1.2, a2.2⟩
                        refine hK.out _ _ hS (fun hS => ?_)
                        clear hK K
                        (try simp only [List.getElem_toArray]); (try simp only [List.getElem_cons_succ]); (try simp only [List.getElem_cons_zero]); (try simp only [Act.put]); (try simp only [List.setIfInBounds_toArray]); (try simp only [List.set_cons_succ]); (try simp only [List.set_cons_zero])
                        refine wpAnyH_take (i := 6) (v := ?vn259) rfl (by kernel_rfl) (by kernel_rfl) (by kernel_rfl) (fun _ _ _ h => h) (Or.inl ⟨by rfl, ?hn259⟩) hS ?rn259
                        case hn259 => intro w' hSw; go_simp; (try with_reducible rfl)
                        (try simp only [List.getElem_toArray]); (try simp only [List.getElem_cons_succ]); (try simp only [List.getElem_cons_zero]); (try simp only [Act.put]); (try simp only [List.setIfInBounds_toArray]); (try simp only [List.set_cons_succ]); (try simp only [List.set_cons_zero])
                        refine wpAnyH_ready (rs := [11]) (by kernel_rfl) (by simp) ?_
                        refine AllReadyH.cons (o := _) rfl (fun K hK => ?_) AllReadyH.nil
                        rw [if_pos (by rfl)]
                        go_simp
                        go_at_call 10
                        clear hS
                        refine (KV2 _ rE).mono ?_
                        rintro e w10 ⟨u, rfl, rfl, k10⟩
                        replace XN := XN.keep k10
                        replace XR := XR.keep k10
                        replace rN := rN.below k10
                        replace rX := rX.below k10
                        replace rY := rY.below k10
                        replace rM := rM.below k10
                        replace a1 := a1.below k10
                        replace rA := rA.below k10
                        replace a2 := a2.below k10
                        replace rE := rE.below k10
                        replace B := B.trans (k10.mono B.size)
                        clear k10
                        have hS : (w10.cell? ⟨gx, ox + k * 2, none⟩ = some (.int .i64 A.xQ) ∧ w10.cell? ⟨gx, ox + k * 2 + 1, none⟩ = some (.slice pA A.xViews.length cA)) ∧ (w10.cell? ⟨gy, oy + k * 2, none⟩ = some (.int .i64 E.xQ) ∧ w10.cell? ⟨gy, oy + k * 2 + 1, none⟩ = some (.slice pE E.xViews.length cE)) := ⟨a1.2, a2.2⟩
                        refine hK.out _ _ hS (fun hS => ?_)
                        clear hK K
                        (try simp only [List.getElem_toArray]); (try simp only [List.getElem_cons_succ]); (try simp only [List.getElem_cons_zero]); (try simp only [Act.put]); (try simp only [List.setIfInBounds_toArray]); (try simp only [List.set_cons_succ]); (try simp only [List.set_cons_zero])
                        refine wpAnyH_take (i := 12) (v := ?vn260) rfl (by kernel_rfl) (by kernel_rfl) (by kernel_rfl) (fun _ _ _ h => h) (Or.inl ⟨by rfl, ?hn260⟩) hS ?rn260
                        case hn260 => intro w' hSw; go_simp; (try with_reducible rfl)
                        (try simp only [List.getElem_toArray]); (try simp only [List.getElem_cons_succ]); (try simp only [List.getElem_cons_zero]); (try simp only [Act.put]); (try simp only [List.setIfInBounds_toArray]); (try simp only [List.set_cons_succ]); (try simp only [List.set_cons_zero])
                        refine wpAnyH_take (i := 13) (v := ?vn261) rfl (by kernel_rfl) (by kernel_rfl) (by kernel_rfl) (fun _ _ _ h => h) (Or.inl ⟨by rfl, ?hn261⟩) hS ?rn261
                        case hn261 => intro w' hSw; go_simp; (try with_reducible rfl)
                        (try simp only [List.getElem_toArray]); (try simp only [List.getElem_cons_succ]); (try simp only [List.getElem_cons_zero]); (try simp only [Act.put]); (try simp only [List.setIfInBounds_toArray]); (try simp only [List.set_cons_succ]); (try simp only [List.set_cons_zero])
                        refine wpAnyH_take (i := 14) (v := ?vn262) rfl (by kernel_rfl) (by kernel_rfl) (by kernel_rfl) (fun _ _ _ h => h) (Or.inl ⟨by rfl, ?hn262⟩) hS ?rn262
                        case hn262 => intro w' hSw; go_simp; (try with_reducible rfl)
                        (try simp only [List.getElem_toArray]); (try simp only [List.getElem_cons_succ]); (try simp only [List.getElem_cons_zero]); (try simp only [Act.put]); (try simp only [List.setIfInBounds_toArray]); (try simp only [List.set_cons_succ]); (try simp only [List.set_cons_zero])
                        refine wpAnyH_take (i := 15) (v := ?vn263) rfl (by kernel_rfl) (by kernel_rfl) (by kernel_rfl) (fun _ _ _ h => h) (Or.inl ⟨by rfl, ?hn263⟩) hS ?rn263
                        case hn263 => intro w' hSw; go_simp; (try with_reducible rfl)
                        (try simp only [List.getElem_toArray]); (try simp only [List.getElem_cons_succ]); (try simp only [List.getElem_cons_zero]); (try simp only [Act.put]); (try simp only [List.setIfInBounds_toArray]); (try simp only [List.set_cons_succ]); (try simp only [List.set_cons_zero])
                        refine wpAnyH_done (by kernel_rfl) ?_ _
                        clear hS
                        go_wp2
                        go_roundw
                        case rel => exact ⟨k + 1, by omega, by rw [HS.out], by rw [HA.out]; rfl, by go_num, XN, XR, rN, rX, rY, rM, B⟩
                        case measure => simp [intOf]; omega
                    · as_aux_lemma =>
                        have a1c := a1.2.1
                        have a1d := a1.2.2
                        have a2c := a2.2.1
                        have a2d := a2.2.2
                        have a1l := a1.1
                        have a2l := a2.1
                        go_wp2_with fail
                        clear a1c a1d a2c a2d a1l a2l
                        refine wp_region_held (S := fun V => (V.cell? ⟨gx, ox + k * 2, none⟩ = some (.int .i64 A.xQ) ∧ V.cell? ⟨gx, ox + k * 2 + 1, none⟩ = some (.slice pA A.xViews.length cA)) ∧ (V.cell? ⟨gy, oy + k * 2, none⟩ = some (.int .i64 E.xQ) ∧ V.cell? ⟨gy, oy + k * 2 + 1, none⟩ = some (.slice pE E.xViews.length cE))) (by kernel_rfl) ?_
                        try (change wpAnyH _ _ _ _ _ _ _ _ (World.drew _))
                        replace XN := XN.drew
                        replace XR := XR.drew
                        replace rN := rN.below (Below.refl _ _).drew
                        replace rX := rX.below (Below.refl _ _).drew
                        replace rY := rY.below (Below.refl _ _).drew
                        replace rM := rM.below (Below.refl _ _).drew
                        replace a1 := a1.below (Below.refl _ _).drew
                        replace rA := rA.below (Below.refl _ _).drew
                        replace a2 := a2.below (Below.refl _ _).drew
                        replace rE := rE.below (Below.refl _ _).drew
                        replace B := B.drew
                        have hS : (w8.drew.cell? ⟨gx, ox + k * 2, none⟩ = some (.int .i64 A.xQ) ∧ w8.drew.cell? ⟨gx, ox + k * 2 + 1, none⟩ = some (.slice pA A.xViews.length cA)) ∧ (w8.drew.cell? ⟨gy, oy + k * 2, none⟩ = some (.int .i64 E.xQ) ∧ w8.drew.cell? ⟨gy, oy + k * 2 + 1, none⟩ = some (.slice pE E.xViews.length cE)) := ⟨a1.2, a2.2⟩
                        refine wpAnyH_take (i := 0) (v := ?vn264) rfl (by kernel_rfl) (by kernel_rfl) (by kernel_rfl) (fun _ _ _ h => h) (Or.inl ⟨by rfl, ?hn264⟩) hS ?rn264
                        case hn264 => intro w' hSw; go_simp; (try with_reducible rfl)
                        (try simp only [List.getElem_toArray]); (try simp only [List.getElem_cons_succ]); (try simp only [List.getElem_cons_zero]); (try simp only [Act.put]); (try simp only [List.setIfInBounds_toArray]); (try simp only [List.set_cons_succ]); (try simp only [List.set_cons_zero])
                        refine wpAnyH_take (i := 1) (v := ?vn265) rfl (by kernel_rfl) (by kernel_rfl) (by kernel_rfl) (fun _ _ _ h => h) (Or.inl ⟨by rfl, ?hn265⟩) hS ?rn265
                        case hn265 => intro w' hSw; go_simp; (try with_reducible rfl)
                        (try simp only [List.getElem_toArray]); (try simp only [List.getElem_cons_succ]); (try simp only [List.getElem_cons_zero]); (try simp only [Act.put]); (try simp only [List.setIfInBounds_toArray]); (try simp only [List.set_cons_succ]); (try simp only [List.set_cons_zero])
                        refine wpAnyH_take (i := 2) (v := ?vn266) rfl (by kernel_rfl) (by kernel_rfl) (by kernel_rfl) (fun _ _ _ h => h) (Or.inl ⟨by rfl, ?hn266⟩) hS ?rn266
                        case hn266 => intro w' hSw; go_simp; (try with_reducible rfl)
                        (try simp only [List.getElem_toArray]); (try simp only [List.getElem_cons_succ]); (try simp only [List.getElem_cons_zero]); (try simp only [Act.put]); (try simp only [List.setIfInBounds_toArray]); (try simp only [List.set_cons_succ]); (try simp only [List.set_cons_zero])
                        refine wpAnyH_take (i := 3) (v := ?vn267) rfl (by kernel_rfl) (by kernel_rfl) (by kernel_rfl) (fun _ _ _ h => h) (Or.inl ⟨by rfl, ?hn267⟩) hS ?rn267
                        case hn267 => intro w' hSw; go_simp; (try with_reducible rfl)
                        (try simp only [List.getElem_toArray]); (try simp only [List.getElem_cons_succ]); (try simp only [List.getElem_cons_zero]); (try simp only [Act.put]); (try simp only [List.setIfInBounds_toArray]); (try simp only [List.set_cons_succ]); (try simp only [List.set_cons_zero])
                        refine wpAnyH_take (i := 4) (v := ?vn268) rfl (by kernel_rfl) (by kernel_rfl) (by kernel_rfl) (fun _ _ _ h => h) (Or.inl ⟨by rfl, ?hn268⟩) hS ?rn268
                        case hn268 => intro w' hSw; go_simp; (try with_reducible rfl)
                        (try simp only [List.getElem_toArray]); (try simp only [List.getElem_cons_succ]); (try simp only [List.getElem_cons_zero]); (try simp only [Act.put]); (try simp only [List.setIfInBounds_toArray]); (try simp only [List.set_cons_succ]); (try simp only [List.set_cons_zero])
                        refine wpAnyH_take (i := 7) (v := ?vn269) rfl (by kernel_rfl) (by kernel_rfl) (by kernel_rfl) (fun _ _ _ h => h) (Or.inl ⟨by rfl, ?hn269⟩) hS ?rn269
                        case hn269 => intro w' hSw; go_simp; (try with_reducible rfl)
                        (try simp only [List.getElem_toArray]); (try simp only [List.getElem_cons_succ]); (try simp only [List.getElem_cons_zero]); (try simp only [Act.put]); (try simp only [List.setIfInBounds_toArray]); (try simp only [List.set_cons_succ]); (try simp only [List.set_cons_zero])
                        refine wpAnyH_take (i := 8) (v := ?vn270) rfl (by kernel_rfl) (by kernel_rfl) (by kernel_rfl) (fun _ _ _ h => h) (Or.inl ⟨by rfl, ?hn270⟩) hS ?rn270
                        case hn270 => intro w' hSw; go_simp; (try with_reducible rfl)
                        (try simp only [List.getElem_toArray]); (try simp only [List.getElem_cons_succ]); (try simp only [List.getElem_cons_zero]); (try simp only [Act.put]); (try simp only [List.setIfInBounds_toArray]); (try simp only [List.set_cons_succ]); (try simp only [List.set_cons_zero])
                        refine wpAnyH_take (i := 9) (v := ?vn271) rfl (by kernel_rfl) (by kernel_rfl) (by kernel_rfl) (fun _ _ _ h => h) (Or.inl ⟨by rfl, ?hn271⟩) hS ?rn271
                        case hn271 => intro w' hSw; go_simp; (try with_reducible rfl)
                        (try simp only [List.getElem_toArray]); (try simp only [List.getElem_cons_succ]); (try simp only [List.getElem_cons_zero]); (try simp only [Act.put]); (try simp only [List.setIfInBounds_toArray]); (try simp only [List.set_cons_succ]); (try simp only [List.set_cons_zero])
                        refine wpAnyH_take (i := 10) (v := ?vn272) rfl (by kernel_rfl) (by kernel_rfl) (by kernel_rfl) (fun _ _ _ h => h) (Or.inl ⟨by rfl, ?hn272⟩) hS ?rn272
                        case hn272 => intro w' hSw; go_simp; (try with_reducible rfl)
                        (try simp only [List.getElem_toArray]); (try simp only [List.getElem_cons_succ]); (try simp only [List.getElem_cons_zero]); (try simp only [Act.put]); (try simp only [List.setIfInBounds_toArray]); (try simp only [List.set_cons_succ]); (try simp only [List.set_cons_zero])
                        refine wpAnyH_ready (rs := [5]) (by kernel_rfl) (by simp) ?_
                        refine AllReadyH.cons (o := _) rfl (fun K hK => ?_) AllReadyH.nil
                        rw [if_pos (by rfl)]
                        go_simp
                        go_at_call 10
                        clear hS
                        refine (KV1 _ rA).mono ?_
                        rintro e w11 ⟨u, rfl, rfl, k11⟩
                        replace XN := XN.keep k11
                        replace XR := XR.keep k11
                        replace rN := rN.below k11
                        replace rX := rX.below k11
                        replace rY := rY.below k11
                        replace rM := rM.below k11
                        replace a1 := a1.below k11
                        replace rA := rA.below k11
                        replace a2 := a2.below k11
                        replace rE := rE.below k11
                        replace B := B.trans (k11.mono B.size)
                        clear k11
                        have hS : (w11.cell? ⟨gx, ox + k * 2, none⟩ = some (.int .i64 A.xQ) ∧ w11.cell? ⟨gx, ox + k * 2 + 1, none⟩ = some (.slice pA A.xViews.length cA)) ∧ (w11.cell? ⟨gy, oy + k * 2, none⟩ = some (.int .i64 E.xQ) ∧ w11.cell? ⟨gy, oy + k * 2 + 1, none⟩ = some (.slice pE E.xViews.length cE)) := ⟨a1.2, a2.2⟩
                        refine hK.out _ _ hS (fun hS => ?_)
                        clear hK K
                        (try simp only [List.getElem_toArray]); (try simp only [List.getElem_cons_succ]); (try simp only [List.getElem_cons_zero]); (try simp only [Act.put]); (try simp only [List.setIfInBounds_toArray]); (try simp only [List.set_cons_succ]); (try simp only [List.set_cons_zero])
                        refine wpAnyH_take (i := 6) (v := ?vn273) rfl (by kernel_rfl) (by kernel_rfl) (by kernel_rfl) (fun _ _ _ h => h) (Or.inl ⟨by rfl, ?hn273⟩) hS ?rn273
                        case hn273 => intro w' hSw; go_simp; (try with_reducible rfl)
                        (try simp only [List.getElem_toArray]); (try simp only [List.getElem_cons_succ]); (try simp only [List.getElem_cons_zero]); (try simp only [Act.put]); (try simp only [List.setIfInBounds_toArray]); (try simp only [List.set_cons_succ]); (try simp only [List.set_cons_zero])
                        refine wpAnyH_ready (rs := [11]) (by kernel_rfl) (by simp) ?_
                        refine AllReadyH.cons (o := _) rfl (fun K hK => ?_) AllReadyH.nil
                        rw [if_pos (by rfl)]
                        go_simp
                        go_at_call 10
                        clear hS
                        refine (KV2 _ rE).mono ?_
                        rintro e w12 ⟨u, rfl, rfl, k12⟩
                        replace XN := XN.keep k12
                        replace XR := XR.keep k12
                        replace rN := rN.below k12
                        replace rX := rX.below k12
                        replace rY := rY.below k12
                        replace rM := rM.below k12
                        replace a1 := a1.below k12
                        replace rA := rA.below k12
                        replace a2 := a2.below k12
                        replace rE := rE.below k12
                        replace B := B.trans (k12.mono B.size)
                        clear k12
                        have hS : (w12.cell? ⟨gx, ox + k * 2, none⟩ = some (.int .i64 A.xQ) ∧ w12.cell? ⟨gx, ox + k * 2 + 1, none⟩ = some (.slice pA A.xViews.length cA)) ∧ (w12.cell? ⟨gy, oy + k * 2, none⟩ = some (.int .i64 E.xQ) ∧ w12.cell? ⟨gy, oy + k * 2 + 1, none⟩ = some (.slice pE E.xViews.length cE)) := ⟨a1.2, a2.2⟩
                        refine hK.out _ _ hS (fun hS => ?_)
                        clear hK K
                        (try simp only [List.getElem_toArray]); (try simp only [List.getElem_cons_succ]); (try simp only [List.getElem_cons_zero]); (try simp only [Act.put]); (try simp only [List.setIfInBounds_toArray]); (try simp only [List.set_cons_succ]); (try simp only [List.set_cons_zero])
                        refine wpAnyH_take (i := 12) (v := ?vn274) rfl (by kernel_rfl) (by kernel_rfl) (by kernel_rfl) (fun _ _ _ h => h) (Or.inl ⟨by rfl, ?hn274⟩) hS ?rn274
                        case hn274 => intro w' hSw; go_simp; (try with_reducible rfl)
                        (try simp only [List.getElem_toArray]); (try simp only [List.getElem_cons_succ]); (try simp only [List.getElem_cons_zero]); (try simp only [Act.put]); (try simp only [List.setIfInBounds_toArray]); (try simp only [List.set_cons_succ]); (try simp only [List.set_cons_zero])
                        refine wpAnyH_take (i := 13) (v := ?vn275) rfl (by kernel_rfl) (by kernel_rfl) (by kernel_rfl) (fun _ _ _ h => h) (Or.inl ⟨by rfl, ?hn275⟩) hS ?rn275
                        case hn275 => intro w' hSw; go_simp; (try with_reducible rfl)
                        (try simp only [List.getElem_toArray]); (try simp only [List.getElem_cons_succ]); (try simp only [List.getElem_cons_zero]); (try simp only [Act.put]); (try simp only [List.setIfInBounds_toArray]); (try simp only [List.set_cons_succ]); (try simp only [List.set_cons_zero])
                        refine wpAnyH_take (i := 14) (v := ?vn276) rfl (by kernel_rfl) (by kernel_rfl) (by kernel_rfl) (fun _ _ _ h => h) (Or.inl ⟨by rfl, ?hn276⟩) hS ?rn276
                        case hn276 => intro w' hSw; go_simp; (try with_reducible rfl)
                        (try simp only [List.getElem_toArray]); (try simp only [List.getElem_cons_succ]); (try simp only [List.getElem_cons_zero]); (try simp only [Act.put]); (try simp only [List.setIfInBounds_toArray]); (try simp only [List.set_cons_succ]); (try simp only [List.set_cons_zero])
                        refine wpAnyH_take (i := 15) (v := ?vn277) rfl (by kernel_rfl) (by kernel_rfl) (by kernel_rfl) (fun _ _ _ h => h) (Or.inl ⟨by rfl, ?hn277⟩) hS ?rn277
                        case hn277 => intro w' hSw; go_simp; (try with_reducible rfl)
                        (try simp only [List.getElem_toArray]); (try simp only [List.getElem_cons_succ]); (try simp only [List.getElem_cons_zero]); (try simp only [Act.put]); (try simp only [List.setIfInBounds_toArray]); (try simp only [List.set_cons_succ]); (try simp only [List.set_cons_zero])
                        refine wpAnyH_done (by kernel_rfl) ?_ _
                        clear hS
                        go_wp2
                        go_roundw
                        case rel => exact ⟨k + 1, by omega, by rw [HS.out], by rw [HA.out]; rfl, by go_num, XN, XR, rN, rX, rY, rM, B⟩
                        case measure => simp [intOf]; omega
          · obtain rfl : k = ny := by omega
            have HD : Hid (alV xs ys k = true → _) := dots HOK.out HCS.out
            have HR3 : Hid (R = dotR 0 x xs ys) := HR2.out HCS.out
            have hs0 := sumV_bd HOK.out.okx HOK.out.oky k (Nat.le_refl _)
            have hn0 : (0 : Int) < (k : Int) := by omega
            have hi : decide ((k : Int) < (k : Int)) = false := by simp
            have hst := HOK.out.st
            clear hlt hk
            cases hal : alV xs ys k
            · as_aux_lemma =>
                have e1 : decide (0 < k) = true := by simp; omega
                have hn0n : 0 < k := by omega
                have e2 : (R.xNet.xSent == R.xNet.xSent) = true := by simp
                clear hal HD
                go_wp2_with fail
                refine wp_region_held (S := fun V => (∀ o, V.cell? ⟨b3, o, none⟩ = (#[.slice p0 x.xTape.length c0, .slice p1 x.xUsed.length c1, .int .i64 x.xSent, .slice p2 x.xHeard.length c2, .int .i64 x.xCheat.xWho, .int .i64 x.xCheat.xAt, .int .i64 x.xCheat.xBy, .bool x.xCheat.xCry, .bool x.xQuarrel.xSome, .int .i64 x.xQuarrel.xFrom, .int .i64 x.xQuarrel.xCheck, .int .i64 x.xQuarrel.xTo, .int .i64 x.xQuarrel.xTold, .int .i64 x.xQuarrel.xHeard, .int .i64 x.xQuarrel.xOther, .int .i64 x.xQuarrel.xVowed] : Array Value)[o]?) ∧ (∀ o, V.cell? ⟨b6, o, none⟩ = (#[.int .i64 R.xCode, .int .i64 R.xMirror.xQ, .slice q0 R.xMirror.xViews.length d0, .slice q1 R.xNet.xTape.length d1, .slice q2 R.xNet.xUsed.length d2, .int .i64 R.xNet.xSent, .slice q3 R.xNet.xHeard.length d3, .int .i64 R.xNet.xCheat.xWho, .int .i64 R.xNet.xCheat.xAt, .int .i64 R.xNet.xCheat.xBy, .bool R.xNet.xCheat.xCry, .bool R.xNet.xQuarrel.xSome, .int .i64 R.xNet.xQuarrel.xFrom, .int .i64 R.xNet.xQuarrel.xCheck, .int .i64 R.xNet.xQuarrel.xTo, .int .i64 R.xNet.xQuarrel.xTold, .int .i64 R.xNet.xQuarrel.xHeard, .int .i64 R.xNet.xQuarrel.xOther, .int .i64 R.xNet.xQuarrel.xVowed] : Array Value)[o]?)) (by kernel_rfl) ?_
                try (change wpAnyH _ _ _ _ _ _ _ _ (World.drew _))
                replace XN := XN.drew
                replace XR := XR.drew
                replace rN := rN.below (Below.refl _ _).drew
                replace rX := rX.below (Below.refl _ _).drew
                replace rY := rY.below (Below.refl _ _).drew
                replace rM := rM.below (Below.refl _ _).drew
                replace B := B.drew
                have hS : (∀ o, wr.drew.cell? ⟨b3, o, none⟩ = (#[.slice p0 x.xTape.length c0, .slice p1 x.xUsed.length c1, .int .i64 x.xSent, .slice p2 x.xHeard.length c2, .int .i64 x.xCheat.xWho, .int .i64 x.xCheat.xAt, .int .i64 x.xCheat.xBy, .bool x.xCheat.xCry, .bool x.xQuarrel.xSome, .int .i64 x.xQuarrel.xFrom, .int .i64 x.xQuarrel.xCheck, .int .i64 x.xQuarrel.xTo, .int .i64 x.xQuarrel.xTold, .int .i64 x.xQuarrel.xHeard, .int .i64 x.xQuarrel.xOther, .int .i64 x.xQuarrel.xVowed] : Array Value)[o]?) ∧ (∀ o, wr.drew.cell? ⟨b6, o, none⟩ = (#[.int .i64 R.xCode, .int .i64 R.xMirror.xQ, .slice q0 R.xMirror.xViews.length d0, .slice q1 R.xNet.xTape.length d1, .slice q2 R.xNet.xUsed.length d2, .int .i64 R.xNet.xSent, .slice q3 R.xNet.xHeard.length d3, .int .i64 R.xNet.xCheat.xWho, .int .i64 R.xNet.xCheat.xAt, .int .i64 R.xNet.xCheat.xBy, .bool R.xNet.xCheat.xCry, .bool R.xNet.xQuarrel.xSome, .int .i64 R.xNet.xQuarrel.xFrom, .int .i64 R.xNet.xQuarrel.xCheck, .int .i64 R.xNet.xQuarrel.xTo, .int .i64 R.xNet.xQuarrel.xTold, .int .i64 R.xNet.xQuarrel.xHeard, .int .i64 R.xNet.xQuarrel.xOther, .int .i64 R.xNet.xQuarrel.xVowed] : Array Value)[o]?) := ⟨XN.at.1, XR.at.1⟩
                refine wpAnyH_take (i := 0) (v := ?vn278) rfl (by kernel_rfl) (by kernel_rfl) (by kernel_rfl) (fun _ _ _ h => h) (Or.inl ⟨by rfl, ?hn278⟩) hS ?rn278
                case hn278 => intro w' hSw; go_simp; (try with_reducible rfl)
                (try simp only [List.getElem_toArray]); (try simp only [List.getElem_cons_succ]); (try simp only [List.getElem_cons_zero]); (try simp only [Act.put]); (try simp only [List.setIfInBounds_toArray]); (try simp only [List.set_cons_succ]); (try simp only [List.set_cons_zero])
                refine wpAnyH_take (i := 1) (v := ?vn279) rfl (by kernel_rfl) (by kernel_rfl) (by kernel_rfl) (fun _ _ _ h => h) (Or.inl ⟨by rfl, ?hn279⟩) hS ?rn279
                case hn279 => intro w' hSw; go_simp; (try with_reducible rfl)
                (try simp only [List.getElem_toArray]); (try simp only [List.getElem_cons_succ]); (try simp only [List.getElem_cons_zero]); (try simp only [Act.put]); (try simp only [List.setIfInBounds_toArray]); (try simp only [List.set_cons_succ]); (try simp only [List.set_cons_zero])
                refine wpAnyH_take (i := 2) (v := ?vn280) rfl (by kernel_rfl) (by kernel_rfl) (by kernel_rfl) (fun _ _ _ h => h) (Or.inl ⟨by rfl, ?hn280⟩) hS ?rn280
                case hn280 => intro w' hSw; go_simp; (try with_reducible rfl)
                (try simp only [List.getElem_toArray]); (try simp only [List.getElem_cons_succ]); (try simp only [List.getElem_cons_zero]); (try simp only [Act.put]); (try simp only [List.setIfInBounds_toArray]); (try simp only [List.set_cons_succ]); (try simp only [List.set_cons_zero])
                refine wpAnyH_take (i := 3) (v := ?vn281) rfl (by kernel_rfl) (by kernel_rfl) (by kernel_rfl) (fun _ _ _ h => h) (Or.inl ⟨by rfl, ?hn281⟩) hS ?rn281
                case hn281 => intro w' hSw; go_simp; (try with_reducible rfl)
                (try simp only [List.getElem_toArray]); (try simp only [List.getElem_cons_succ]); (try simp only [List.getElem_cons_zero]); (try simp only [Act.put]); (try simp only [List.setIfInBounds_toArray]); (try simp only [List.set_cons_succ]); (try simp only [List.set_cons_zero])
                refine wpAnyH_take (i := 4) (v := ?vn282) rfl (by kernel_rfl) (by kernel_rfl) (by kernel_rfl) (fun _ _ _ h => h) (Or.inl ⟨by rfl, ?hn282⟩) hS ?rn282
                case hn282 => intro w' hSw; go_simp; (try with_reducible rfl)
                (try simp only [List.getElem_toArray]); (try simp only [List.getElem_cons_succ]); (try simp only [List.getElem_cons_zero]); (try simp only [Act.put]); (try simp only [List.setIfInBounds_toArray]); (try simp only [List.set_cons_succ]); (try simp only [List.set_cons_zero])
                refine wpAnyH_take (i := 5) (v := ?vn283) rfl (by kernel_rfl) (by kernel_rfl) (by kernel_rfl) (fun _ _ _ h => h) (Or.inl ⟨by rfl, ?hn283⟩) hS ?rn283
                case hn283 => intro w' hSw; go_simp; (try with_reducible rfl)
                (try simp only [List.getElem_toArray]); (try simp only [List.getElem_cons_succ]); (try simp only [List.getElem_cons_zero]); (try simp only [Act.put]); (try simp only [List.setIfInBounds_toArray]); (try simp only [List.set_cons_succ]); (try simp only [List.set_cons_zero])
                refine wpAnyH_take (i := 6) (v := ?vn284) rfl (by kernel_rfl) (by kernel_rfl) (by kernel_rfl) (fun _ _ _ h => h) (Or.inl ⟨by rfl, ?hn284⟩) hS ?rn284
                case hn284 => intro w' hSw; go_simp; (try with_reducible rfl)
                (try simp only [List.getElem_toArray]); (try simp only [List.getElem_cons_succ]); (try simp only [List.getElem_cons_zero]); (try simp only [Act.put]); (try simp only [List.setIfInBounds_toArray]); (try simp only [List.set_cons_succ]); (try simp only [List.set_cons_zero])
                refine wpAnyH_take (i := 7) (v := ?vn285) rfl (by kernel_rfl) (by kernel_rfl) (by kernel_rfl) (fun _ _ _ h => h) (Or.inl ⟨by rfl, ?hn285⟩) hS ?rn285
                case hn285 => intro w' hSw; go_simp; (try with_reducible rfl)
                (try simp only [List.getElem_toArray]); (try simp only [List.getElem_cons_succ]); (try simp only [List.getElem_cons_zero]); (try simp only [Act.put]); (try simp only [List.setIfInBounds_toArray]); (try simp only [List.set_cons_succ]); (try simp only [List.set_cons_zero])
                refine wpAnyH_take (i := 8) (v := ?vn286) rfl (by kernel_rfl) (by kernel_rfl) (by kernel_rfl) (fun _ _ _ h => h) (Or.inl ⟨by rfl, ?hn286⟩) hS ?rn286
                case hn286 => intro w' hSw; go_simp; (try with_reducible rfl)
                (try simp only [List.getElem_toArray]); (try simp only [List.getElem_cons_succ]); (try simp only [List.getElem_cons_zero]); (try simp only [Act.put]); (try simp only [List.setIfInBounds_toArray]); (try simp only [List.set_cons_succ]); (try simp only [List.set_cons_zero])
                refine wpAnyH_take (i := 9) (v := ?vn287) rfl (by kernel_rfl) (by kernel_rfl) (by kernel_rfl) (fun _ _ _ h => h) (Or.inl ⟨by rfl, ?hn287⟩) hS ?rn287
                case hn287 => intro w' hSw; go_simp; (try with_reducible rfl)
                (try simp only [List.getElem_toArray]); (try simp only [List.getElem_cons_succ]); (try simp only [List.getElem_cons_zero]); (try simp only [Act.put]); (try simp only [List.setIfInBounds_toArray]); (try simp only [List.set_cons_succ]); (try simp only [List.set_cons_zero])
                refine wpAnyH_ready (rs := [10]) (by kernel_rfl) (by simp) ?_
                refine AllReadyH.cons (o := _) rfl (fun K hK => ?_) AllReadyH.nil
                rw [if_pos (by rfl)]
                go_simp
                go_at_call 8
                clear hS
                refine (KRS _ _ _ rN rX rY).mono ?_
                rintro e w13 ⟨u9, bc0, bc1, bc2, bc3, rfl, ON9, -, -, -, -, k13⟩
                obtain ⟨s0, t0, s1, t1, s2, t2, s3, t3, rfl, -⟩ := ON9
                replace XN := XN.keep k13
                replace XR := XR.keep k13
                replace rN := rN.below k13
                replace rX := rX.below k13
                replace rY := rY.below k13
                replace rM := rM.below k13
                replace B := B.trans (k13.mono B.size)
                clear k13
                have hS : (∀ o, w13.cell? ⟨b3, o, none⟩ = (#[.slice p0 x.xTape.length c0, .slice p1 x.xUsed.length c1, .int .i64 x.xSent, .slice p2 x.xHeard.length c2, .int .i64 x.xCheat.xWho, .int .i64 x.xCheat.xAt, .int .i64 x.xCheat.xBy, .bool x.xCheat.xCry, .bool x.xQuarrel.xSome, .int .i64 x.xQuarrel.xFrom, .int .i64 x.xQuarrel.xCheck, .int .i64 x.xQuarrel.xTo, .int .i64 x.xQuarrel.xTold, .int .i64 x.xQuarrel.xHeard, .int .i64 x.xQuarrel.xOther, .int .i64 x.xQuarrel.xVowed] : Array Value)[o]?) ∧ (∀ o, w13.cell? ⟨b6, o, none⟩ = (#[.int .i64 R.xCode, .int .i64 R.xMirror.xQ, .slice q0 R.xMirror.xViews.length d0, .slice q1 R.xNet.xTape.length d1, .slice q2 R.xNet.xUsed.length d2, .int .i64 R.xNet.xSent, .slice q3 R.xNet.xHeard.length d3, .int .i64 R.xNet.xCheat.xWho, .int .i64 R.xNet.xCheat.xAt, .int .i64 R.xNet.xCheat.xBy, .bool R.xNet.xCheat.xCry, .bool R.xNet.xQuarrel.xSome, .int .i64 R.xNet.xQuarrel.xFrom, .int .i64 R.xNet.xQuarrel.xCheck, .int .i64 R.xNet.xQuarrel.xTo, .int .i64 R.xNet.xQuarrel.xTold, .int .i64 R.xNet.xQuarrel.xHeard, .int .i64 R.xNet.xQuarrel.xOther, .int .i64 R.xNet.xQuarrel.xVowed] : Array Value)[o]?) := ⟨XN.at.1, XR.at.1⟩
                refine hK.out _ _ hS (fun hS => ?_)
                clear hK K
                (try simp only [List.getElem_toArray]); (try simp only [List.getElem_cons_succ]); (try simp only [List.getElem_cons_zero]); (try simp only [Act.put]); (try simp only [List.setIfInBounds_toArray]); (try simp only [List.set_cons_succ]); (try simp only [List.set_cons_zero])
                refine wpAnyH_take (i := 11) (v := ?vn288) rfl (by kernel_rfl) (by kernel_rfl) (by kernel_rfl) (fun _ _ _ h => h) (Or.inl ⟨by rfl, ?hn288⟩) hS ?rn288
                case hn288 => intro w' hSw; go_simp; (try with_reducible rfl)
                (try simp only [List.getElem_toArray]); (try simp only [List.getElem_cons_succ]); (try simp only [List.getElem_cons_zero]); (try simp only [Act.put]); (try simp only [List.setIfInBounds_toArray]); (try simp only [List.set_cons_succ]); (try simp only [List.set_cons_zero])
                refine wpAnyH_take (i := 12) (v := ?vn289) rfl (by kernel_rfl) (by kernel_rfl) (by kernel_rfl) (fun _ _ _ h => h) (Or.inl ⟨by rfl, ?hn289⟩) hS ?rn289
                case hn289 => intro w' hSw; go_simp; (try with_reducible rfl)
                (try simp only [List.getElem_toArray]); (try simp only [List.getElem_cons_succ]); (try simp only [List.getElem_cons_zero]); (try simp only [Act.put]); (try simp only [List.setIfInBounds_toArray]); (try simp only [List.set_cons_succ]); (try simp only [List.set_cons_zero])
                refine wpAnyH_take (i := 13) (v := ?vn290) rfl (by kernel_rfl) (by kernel_rfl) (by kernel_rfl) (fun _ _ _ h => h) (Or.inl ⟨by rfl, ?hn290⟩) hS ?rn290
                case hn290 => intro w' hSw; go_simp; (try with_reducible rfl)
                (try simp only [List.getElem_toArray]); (try simp only [List.getElem_cons_succ]); (try simp only [List.getElem_cons_zero]); (try simp only [Act.put]); (try simp only [List.setIfInBounds_toArray]); (try simp only [List.set_cons_succ]); (try simp only [List.set_cons_zero])
                refine wpAnyH_take (i := 14) (v := ?vn291) rfl (by kernel_rfl) (by kernel_rfl) (by kernel_rfl) (fun _ _ _ h => h) (Or.inl ⟨by rfl, ?hn291⟩) hS ?rn291
                case hn291 => intro w' hSw; go_simp; (try with_reducible rfl)
                (try simp only [List.getElem_toArray]); (try simp only [List.getElem_cons_succ]); (try simp only [List.getElem_cons_zero]); (try simp only [Act.put]); (try simp only [List.setIfInBounds_toArray]); (try simp only [List.set_cons_succ]); (try simp only [List.set_cons_zero])
                refine wpAnyH_take (i := 15) (v := ?vn292) rfl (by kernel_rfl) (by kernel_rfl) (by kernel_rfl) (fun _ _ _ h => h) (Or.inl ⟨by rfl, ?hn292⟩) hS ?rn292
                case hn292 => intro w' hSw; go_simp; (try with_reducible rfl)
                (try simp only [List.getElem_toArray]); (try simp only [List.getElem_cons_succ]); (try simp only [List.getElem_cons_zero]); (try simp only [Act.put]); (try simp only [List.setIfInBounds_toArray]); (try simp only [List.set_cons_succ]); (try simp only [List.set_cons_zero])
                refine wpAnyH_done (by kernel_rfl) ?_ _
                clear hS
                go_wp2
                go_ret
                exact ⟨rfl, B⟩
            · rcases HD.out hal with ⟨g0, g1, g2, g3⟩ | ⟨g0, g1, g2, g3⟩
              · as_aux_lemma =>
                  rw [← HR3.out] at g0 g1 g2 g3
                  obtain ⟨Q, hQ⟩ : ∃ q, q = (xs.getD 0 zM).xQ := ⟨_, rfl⟩
                  have hq := HOK.out.hq
                  rw [← hQ] at g3 hq
                  have KV := fun W h => impl_ValueOf (.agg #[.int .i64 R.xMirror.xQ, .slice q0 R.xMirror.xViews.length d0]) R.xMirror (-1) W h
                  rw [g3] at KV
                  have KF := fun W h => impl_MirrorFault (.agg #[.int .i64 R.xMirror.xQ, .slice q0 R.xMirror.xViews.length d0]) R.xMirror W h
                  rw [g2] at KF
                  have KM := fun W => (lwMod_at Q (sumV xs ys k) W (by rcases hq with h | h <;> omega) (by rcases hq with h | h <;> omega)).mono (fun e w' h => (⟨h.1, h.2 ▸ Below.refl _ _⟩ : e = _ ∧ Below W.heap.size W w'))
                  obtain ⟨pv0, cv0, a0x, -⟩ := RdMirrorS.at2 rX (k := 0) HN.out.1 (by omega)
                  rw [← hQ] at a0x
                  obtain ⟨v0, hv0⟩ : ∃ v, v = Value.slice pv0 (xs.getD 0 zM).xViews.length cv0 := ⟨_, rfl⟩
                  rw [← hv0] at a0x
                  have a0 : At2 wr (.int .i64 Q) v0 gx ox := a0x
                  clear a0x hv0 hQ
                  have hn0n : 0 < k := by omega
                  have e4 : (sumV xs ys k % Q == sumV xs ys k % Q) = true := by simp
                  have ew : IntKind.i64.wrap (x.xSent + 12) = x.xSent + 12 := by rw [IntKind.wrap_i64]; omega
                  have e5 : (R.xNet.xSent == x.xSent + 12) = true := by simpa using g1
                  generalize sumV xs ys k = sm at *
                  have G0 : Hid (R.xNet.xQuarrel.xSome = false) := g0
                  clear g0 g1 g2 g3 hq hal HD hst hs0
                  have XRa := XR.at.1
                  have XRl := XR.lt
                  rw [G0.out] at XRa
                  go_wp2_with fail
                  clear XRa XRl
                  refine (KV _ rM).mono ?_
                  rintro e w14 ⟨u, rfl, rfl, k14⟩
                  clear KV
                  replace XN := XN.keep k14
                  replace XR := XR.keep k14
                  replace rN := rN.below k14
                  replace rX := rX.below k14
                  replace rY := rY.below k14
                  replace rM := rM.below k14
                  replace a0 := a0.below k14
                  replace B := B.trans (k14.mono B.size)
                  clear k14
                  go_wp2_with fail
                  have XV := Blk.new w14 44 #[.int .i64 0, .int .i64 (sm % Q)]
                  replace XN := XN.alloc (.cells #[.int .i64 0, .int .i64 (sm % Q)] 44)
                  replace XR := XR.alloc (.cells #[.int .i64 0, .int .i64 (sm % Q)] 44)
                  replace rN := rN.below ((Below.refl _ _).alloc (Nat.le_refl _) (.cells #[.int .i64 0, .int .i64 (sm % Q)] 44))
                  replace rX := rX.below ((Below.refl _ _).alloc (Nat.le_refl _) (.cells #[.int .i64 0, .int .i64 (sm % Q)] 44))
                  replace rY := rY.below ((Below.refl _ _).alloc (Nat.le_refl _) (.cells #[.int .i64 0, .int .i64 (sm % Q)] 44))
                  replace rM := rM.below ((Below.refl _ _).alloc (Nat.le_refl _) (.cells #[.int .i64 0, .int .i64 (sm % Q)] 44))
                  replace a0 := a0.below ((Below.refl _ _).alloc (Nat.le_refl _) (.cells #[.int .i64 0, .int .i64 (sm % Q)] 44))
                  replace B := B.alloc B.size (.cells #[.int .i64 0, .int .i64 (sm % Q)] 44)
                  generalize w14.heap.size = b11 at *
                  generalize w14.alloc (.cells #[.int .i64 0, .int .i64 (sm % Q)] 44) = wq at *
                  refine wp_region_held (S := fun V => (∀ o, V.cell? ⟨b3, o, none⟩ = (#[.slice p0 x.xTape.length c0, .slice p1 x.xUsed.length c1, .int .i64 x.xSent, .slice p2 x.xHeard.length c2, .int .i64 x.xCheat.xWho, .int .i64 x.xCheat.xAt, .int .i64 x.xCheat.xBy, .bool x.xCheat.xCry, .bool x.xQuarrel.xSome, .int .i64 x.xQuarrel.xFrom, .int .i64 x.xQuarrel.xCheck, .int .i64 x.xQuarrel.xTo, .int .i64 x.xQuarrel.xTold, .int .i64 x.xQuarrel.xHeard, .int .i64 x.xQuarrel.xOther, .int .i64 x.xQuarrel.xVowed] : Array Value)[o]?) ∧ (∀ o, V.cell? ⟨b6, o, none⟩ = (#[.int .i64 R.xCode, .int .i64 R.xMirror.xQ, .slice q0 R.xMirror.xViews.length d0, .slice q1 R.xNet.xTape.length d1, .slice q2 R.xNet.xUsed.length d2, .int .i64 R.xNet.xSent, .slice q3 R.xNet.xHeard.length d3, .int .i64 R.xNet.xCheat.xWho, .int .i64 R.xNet.xCheat.xAt, .int .i64 R.xNet.xCheat.xBy, .bool R.xNet.xCheat.xCry, .bool R.xNet.xQuarrel.xSome, .int .i64 R.xNet.xQuarrel.xFrom, .int .i64 R.xNet.xQuarrel.xCheck, .int .i64 R.xNet.xQuarrel.xTo, .int .i64 R.xNet.xQuarrel.xTold, .int .i64 R.xNet.xQuarrel.xHeard, .int .i64 R.xNet.xQuarrel.xOther, .int .i64 R.xNet.xQuarrel.xVowed] : Array Value)[o]?) ∧ (V.cell? ⟨gx, ox, none⟩ = some (.int .i64 Q) ∧ V.cell? ⟨gx, ox + 1, none⟩ = some (v0)) ∧ (∀ o, V.cell? ⟨b11, o, none⟩ = (#[.int .i64 0, .int .i64 (sm % Q)] : Array Value)[o]?)) (by kernel_rfl) ?_
                  try (change wpAnyH _ _ _ _ _ _ _ _ (World.drew _))
                  replace XN := XN.drew
                  replace XR := XR.drew
                  replace XV := XV.drew
                  replace rN := rN.below (Below.refl _ _).drew
                  replace rX := rX.below (Below.refl _ _).drew
                  replace rY := rY.below (Below.refl _ _).drew
                  replace rM := rM.below (Below.refl _ _).drew
                  replace a0 := a0.below (Below.refl _ _).drew
                  replace B := B.drew
                  have hS : (∀ o, wq.drew.cell? ⟨b3, o, none⟩ = (#[.slice p0 x.xTape.length c0, .slice p1 x.xUsed.length c1, .int .i64 x.xSent, .slice p2 x.xHeard.length c2, .int .i64 x.xCheat.xWho, .int .i64 x.xCheat.xAt, .int .i64 x.xCheat.xBy, .bool x.xCheat.xCry, .bool x.xQuarrel.xSome, .int .i64 x.xQuarrel.xFrom, .int .i64 x.xQuarrel.xCheck, .int .i64 x.xQuarrel.xTo, .int .i64 x.xQuarrel.xTold, .int .i64 x.xQuarrel.xHeard, .int .i64 x.xQuarrel.xOther, .int .i64 x.xQuarrel.xVowed] : Array Value)[o]?) ∧ (∀ o, wq.drew.cell? ⟨b6, o, none⟩ = (#[.int .i64 R.xCode, .int .i64 R.xMirror.xQ, .slice q0 R.xMirror.xViews.length d0, .slice q1 R.xNet.xTape.length d1, .slice q2 R.xNet.xUsed.length d2, .int .i64 R.xNet.xSent, .slice q3 R.xNet.xHeard.length d3, .int .i64 R.xNet.xCheat.xWho, .int .i64 R.xNet.xCheat.xAt, .int .i64 R.xNet.xCheat.xBy, .bool R.xNet.xCheat.xCry, .bool R.xNet.xQuarrel.xSome, .int .i64 R.xNet.xQuarrel.xFrom, .int .i64 R.xNet.xQuarrel.xCheck, .int .i64 R.xNet.xQuarrel.xTo, .int .i64 R.xNet.xQuarrel.xTold, .int .i64 R.xNet.xQuarrel.xHeard, .int .i64 R.xNet.xQuarrel.xOther, .int .i64 R.xNet.xQuarrel.xVowed] : Array Value)[o]?) ∧ (wq.drew.cell? ⟨gx, ox, none⟩ = some (.int .i64 Q) ∧ wq.drew.cell? ⟨gx, ox + 1, none⟩ = some (v0)) ∧ (∀ o, wq.drew.cell? ⟨b11, o, none⟩ = (#[.int .i64 0, .int .i64 (sm % Q)] : Array Value)[o]?) := ⟨XN.at.1, XR.at.1, a0.2, XV.at.1⟩
                  refine wpAnyH_take (i := 0) (v := ?vn293) rfl (by kernel_rfl) (by kernel_rfl) (by kernel_rfl) (fun _ _ _ h => h) (Or.inl ⟨by rfl, ?hn293⟩) hS ?rn293
                  case hn293 => intro w' hSw; go_simp; (try with_reducible rfl)
                  (try simp only [List.getElem_toArray]); (try simp only [List.getElem_cons_succ]); (try simp only [List.getElem_cons_zero]); (try simp only [Act.put]); (try simp only [List.setIfInBounds_toArray]); (try simp only [List.set_cons_succ]); (try simp only [List.set_cons_zero])
                  refine wpAnyH_take (i := 1) (v := ?vn294) rfl (by kernel_rfl) (by kernel_rfl) (by kernel_rfl) (fun _ _ _ h => h) (Or.inl ⟨by rfl, ?hn294⟩) hS ?rn294
                  case hn294 => intro w' hSw; go_simp; (try with_reducible rfl)
                  (try simp only [List.getElem_toArray]); (try simp only [List.getElem_cons_succ]); (try simp only [List.getElem_cons_zero]); (try simp only [Act.put]); (try simp only [List.setIfInBounds_toArray]); (try simp only [List.set_cons_succ]); (try simp only [List.set_cons_zero])
                  refine wpAnyH_take (i := 2) (v := ?vn295) rfl (by kernel_rfl) (by kernel_rfl) (by kernel_rfl) (fun _ _ _ h => h) (Or.inl ⟨by rfl, ?hn295⟩) hS ?rn295
                  case hn295 => intro w' hSw; go_simp; (try with_reducible rfl)
                  (try simp only [List.getElem_toArray]); (try simp only [List.getElem_cons_succ]); (try simp only [List.getElem_cons_zero]); (try simp only [Act.put]); (try simp only [List.setIfInBounds_toArray]); (try simp only [List.set_cons_succ]); (try simp only [List.set_cons_zero])
                  refine wpAnyH_take (i := 3) (v := ?vn296) rfl (by kernel_rfl) (by kernel_rfl) (by kernel_rfl) (fun _ _ _ h => h) (Or.inl ⟨by rfl, ?hn296⟩) hS ?rn296
                  case hn296 => intro w' hSw; go_simp; (try with_reducible rfl)
                  (try simp only [List.getElem_toArray]); (try simp only [List.getElem_cons_succ]); (try simp only [List.getElem_cons_zero]); (try simp only [Act.put]); (try simp only [List.setIfInBounds_toArray]); (try simp only [List.set_cons_succ]); (try simp only [List.set_cons_zero])
                  refine wpAnyH_take (i := 4) (v := ?vn297) rfl (by kernel_rfl) (by kernel_rfl) (by kernel_rfl) (fun _ _ _ h => h) (Or.inl ⟨by rfl, ?hn297⟩) hS ?rn297
                  case hn297 => intro w' hSw; go_simp; (try with_reducible rfl)
                  (try simp only [List.getElem_toArray]); (try simp only [List.getElem_cons_succ]); (try simp only [List.getElem_cons_zero]); (try simp only [Act.put]); (try simp only [List.setIfInBounds_toArray]); (try simp only [List.set_cons_succ]); (try simp only [List.set_cons_zero])
                  refine wpAnyH_take (i := 5) (v := ?vn298) rfl (by kernel_rfl) (by kernel_rfl) (by kernel_rfl) (fun _ _ _ h => h) (Or.inl ⟨by rfl, ?hn298⟩) hS ?rn298
                  case hn298 => intro w' hSw; go_simp; (try with_reducible rfl)
                  (try simp only [List.getElem_toArray]); (try simp only [List.getElem_cons_succ]); (try simp only [List.getElem_cons_zero]); (try simp only [Act.put]); (try simp only [List.setIfInBounds_toArray]); (try simp only [List.set_cons_succ]); (try simp only [List.set_cons_zero])
                  refine wpAnyH_take (i := 6) (v := ?vn299) rfl (by kernel_rfl) (by kernel_rfl) (by kernel_rfl) (fun _ _ _ h => h) (Or.inl ⟨by rfl, ?hn299⟩) hS ?rn299
                  case hn299 => intro w' hSw; go_simp; (try with_reducible rfl)
                  (try simp only [List.getElem_toArray]); (try simp only [List.getElem_cons_succ]); (try simp only [List.getElem_cons_zero]); (try simp only [Act.put]); (try simp only [List.setIfInBounds_toArray]); (try simp only [List.set_cons_succ]); (try simp only [List.set_cons_zero])
                  refine wpAnyH_take (i := 7) (v := ?vn300) rfl (by kernel_rfl) (by kernel_rfl) (by kernel_rfl) (fun _ _ _ h => h) (Or.inl ⟨by rfl, ?hn300⟩) hS ?rn300
                  case hn300 => intro w' hSw; go_simp; (try with_reducible rfl)
                  (try simp only [List.getElem_toArray]); (try simp only [List.getElem_cons_succ]); (try simp only [List.getElem_cons_zero]); (try simp only [Act.put]); (try simp only [List.setIfInBounds_toArray]); (try simp only [List.set_cons_succ]); (try simp only [List.set_cons_zero])
                  refine wpAnyH_take (i := 8) (v := ?vn301) rfl (by kernel_rfl) (by kernel_rfl) (by kernel_rfl) (fun _ _ _ h => h) (Or.inl ⟨by rfl, ?hn301⟩) hS ?rn301
                  case hn301 => intro w' hSw; go_simp; (try with_reducible rfl)
                  (try simp only [List.getElem_toArray]); (try simp only [List.getElem_cons_succ]); (try simp only [List.getElem_cons_zero]); (try simp only [Act.put]); (try simp only [List.setIfInBounds_toArray]); (try simp only [List.set_cons_succ]); (try simp only [List.set_cons_zero])
                  refine wpAnyH_take (i := 9) (v := ?vn302) rfl (by kernel_rfl) (by kernel_rfl) (by kernel_rfl) (fun _ _ _ h => h) (Or.inl ⟨by rfl, ?hn302⟩) hS ?rn302
                  case hn302 => intro w' hSw; go_simp; (try with_reducible rfl)
                  (try simp only [List.getElem_toArray]); (try simp only [List.getElem_cons_succ]); (try simp only [List.getElem_cons_zero]); (try simp only [Act.put]); (try simp only [List.setIfInBounds_toArray]); (try simp only [List.set_cons_succ]); (try simp only [List.set_cons_zero])
                  refine wpAnyH_take (i := 10) (v := ?vn303) rfl (by kernel_rfl) (by kernel_rfl) (by kernel_rfl) (fun _ _ _ h => h) (Or.inl ⟨by rfl, ?hn303⟩) hS ?rn303
                  case hn303 => intro w' hSw; go_simp; (try with_reducible rfl)
                  (try simp only [List.getElem_toArray]); (try simp only [List.getElem_cons_succ]); (try simp only [List.getElem_cons_zero]); (try simp only [Act.put]); (try simp only [List.setIfInBounds_toArray]); (try simp only [List.set_cons_succ]); (try simp only [List.set_cons_zero])
                  refine wpAnyH_ready (rs := [11]) (by kernel_rfl) (by simp) ?_
                  refine AllReadyH.cons (o := _) rfl (fun K hK => ?_) AllReadyH.nil
                  rw [if_pos (by rfl)]
                  go_simp
                  go_at_call 13
                  clear hS
                  refine (KM _).mono ?_
                  rintro e w15 ⟨rfl, k15⟩
                  replace XN := XN.keep k15
                  replace XR := XR.keep k15
                  replace XV := XV.keep k15
                  replace rN := rN.below k15
                  replace rX := rX.below k15
                  replace rY := rY.below k15
                  replace rM := rM.below k15
                  replace a0 := a0.below k15
                  replace B := B.trans (k15.mono B.size)
                  clear k15
                  have hS : (∀ o, w15.cell? ⟨b3, o, none⟩ = (#[.slice p0 x.xTape.length c0, .slice p1 x.xUsed.length c1, .int .i64 x.xSent, .slice p2 x.xHeard.length c2, .int .i64 x.xCheat.xWho, .int .i64 x.xCheat.xAt, .int .i64 x.xCheat.xBy, .bool x.xCheat.xCry, .bool x.xQuarrel.xSome, .int .i64 x.xQuarrel.xFrom, .int .i64 x.xQuarrel.xCheck, .int .i64 x.xQuarrel.xTo, .int .i64 x.xQuarrel.xTold, .int .i64 x.xQuarrel.xHeard, .int .i64 x.xQuarrel.xOther, .int .i64 x.xQuarrel.xVowed] : Array Value)[o]?) ∧ (∀ o, w15.cell? ⟨b6, o, none⟩ = (#[.int .i64 R.xCode, .int .i64 R.xMirror.xQ, .slice q0 R.xMirror.xViews.length d0, .slice q1 R.xNet.xTape.length d1, .slice q2 R.xNet.xUsed.length d2, .int .i64 R.xNet.xSent, .slice q3 R.xNet.xHeard.length d3, .int .i64 R.xNet.xCheat.xWho, .int .i64 R.xNet.xCheat.xAt, .int .i64 R.xNet.xCheat.xBy, .bool R.xNet.xCheat.xCry, .bool R.xNet.xQuarrel.xSome, .int .i64 R.xNet.xQuarrel.xFrom, .int .i64 R.xNet.xQuarrel.xCheck, .int .i64 R.xNet.xQuarrel.xTo, .int .i64 R.xNet.xQuarrel.xTold, .int .i64 R.xNet.xQuarrel.xHeard, .int .i64 R.xNet.xQuarrel.xOther, .int .i64 R.xNet.xQuarrel.xVowed] : Array Value)[o]?) ∧ (w15.cell? ⟨gx, ox, none⟩ = some (.int .i64 Q) ∧ w15.cell? ⟨gx, ox + 1, none⟩ = some (v0)) ∧ (∀ o, w15.cell? ⟨b11, o, none⟩ = (#[.int .i64 0, .int .i64 (sm % Q)] : Array Value)[o]?) := ⟨XN.at.1, XR.at.1, a0.2, XV.at.1⟩
                  refine hK.out _ _ hS (fun hS => ?_)
                  clear hK K
                  (try simp only [List.getElem_toArray]); (try simp only [List.getElem_cons_succ]); (try simp only [List.getElem_cons_zero]); (try simp only [Act.put]); (try simp only [List.setIfInBounds_toArray]); (try simp only [List.set_cons_succ]); (try simp only [List.set_cons_zero])
                  refine wpAnyH_take (i := 12) (v := ?vn304) rfl (by kernel_rfl) (by kernel_rfl) (by kernel_rfl) (fun _ _ _ h => h) (Or.inl ⟨by rfl, ?hn304⟩) hS ?rn304
                  case hn304 => intro w' hSw; go_simp; (try with_reducible rfl)
                  (try simp only [List.getElem_toArray]); (try simp only [List.getElem_cons_succ]); (try simp only [List.getElem_cons_zero]); (try simp only [Act.put]); (try simp only [List.setIfInBounds_toArray]); (try simp only [List.set_cons_succ]); (try simp only [List.set_cons_zero])
                  refine wpAnyH_take (i := 13) (v := ?vn305) rfl (by kernel_rfl) (by kernel_rfl) (by kernel_rfl) (fun _ _ _ h => h) (Or.inl ⟨by rfl, ?hn305⟩) hS ?rn305
                  case hn305 => intro w' hSw; go_simp; (try with_reducible rfl)
                  (try simp only [List.getElem_toArray]); (try simp only [List.getElem_cons_succ]); (try simp only [List.getElem_cons_zero]); (try simp only [Act.put]); (try simp only [List.setIfInBounds_toArray]); (try simp only [List.set_cons_succ]); (try simp only [List.set_cons_zero])
                  refine wpAnyH_take (i := 14) (v := ?vn306) rfl (by kernel_rfl) (by kernel_rfl) (by kernel_rfl) (fun _ _ _ h => h) (Or.inl ⟨by rfl, ?hn306⟩) hS ?rn306
                  case hn306 => intro w' hSw; go_simp; (try with_reducible rfl)
                  (try simp only [List.getElem_toArray]); (try simp only [List.getElem_cons_succ]); (try simp only [List.getElem_cons_zero]); (try simp only [Act.put]); (try simp only [List.setIfInBounds_toArray]); (try simp only [List.set_cons_succ]); (try simp only [List.set_cons_zero])
                  refine wpAnyH_take (i := 15) (v := ?vn307) rfl (by kernel_rfl) (by kernel_rfl) (by kernel_rfl) (fun _ _ _ h => h) (Or.inl ⟨by rfl, ?hn307⟩) hS ?rn307
                  case hn307 => intro w' hSw; go_simp; (try with_reducible rfl)
                  (try simp only [List.getElem_toArray]); (try simp only [List.getElem_cons_succ]); (try simp only [List.getElem_cons_zero]); (try simp only [Act.put]); (try simp only [List.setIfInBounds_toArray]); (try simp only [List.set_cons_succ]); (try simp only [List.set_cons_zero])
                  refine wpAnyH_take (i := 16) (v := ?vn308) rfl (by kernel_rfl) (by kernel_rfl) (by kernel_rfl) (fun _ _ _ h => h) (Or.inl ⟨by rfl, ?hn308⟩) hS ?rn308
                  case hn308 => intro w' hSw; go_simp; (try with_reducible rfl)
                  (try simp only [List.getElem_toArray]); (try simp only [List.getElem_cons_succ]); (try simp only [List.getElem_cons_zero]); (try simp only [Act.put]); (try simp only [List.setIfInBounds_toArray]); (try simp only [List.set_cons_succ]); (try simp only [List.set_cons_zero])
                  refine wpAnyH_take (i := 17) (v := ?vn309) rfl (by kernel_rfl) (by kernel_rfl) (by kernel_rfl) (fun _ _ _ h => h) (Or.inl ⟨by rfl, ?hn309⟩) hS ?rn309
                  case hn309 => intro w' hSw; go_simp; (try with_reducible rfl)
                  (try simp only [List.getElem_toArray]); (try simp only [List.getElem_cons_succ]); (try simp only [List.getElem_cons_zero]); (try simp only [Act.put]); (try simp only [List.setIfInBounds_toArray]); (try simp only [List.set_cons_succ]); (try simp only [List.set_cons_zero])
                  refine wpAnyH_take (i := 18) (v := ?vn310) rfl (by kernel_rfl) (by kernel_rfl) (by kernel_rfl) (fun _ _ _ h => h) (Or.inl ⟨by rfl, ?hn310⟩) hS ?rn310
                  case hn310 => intro w' hSw; go_simp; (try with_reducible rfl)
                  (try simp only [List.getElem_toArray]); (try simp only [List.getElem_cons_succ]); (try simp only [List.getElem_cons_zero]); (try simp only [Act.put]); (try simp only [List.setIfInBounds_toArray]); (try simp only [List.set_cons_succ]); (try simp only [List.set_cons_zero])
                  refine wpAnyH_take (i := 19) (v := ?vn311) rfl (by kernel_rfl) (by kernel_rfl) (by kernel_rfl) (fun _ _ _ h => h) (Or.inl ⟨by rfl, ?hn311⟩) hS ?rn311
                  case hn311 => intro w' hSw; go_simp; (try with_reducible rfl)
                  (try simp only [List.getElem_toArray]); (try simp only [List.getElem_cons_succ]); (try simp only [List.getElem_cons_zero]); (try simp only [Act.put]); (try simp only [List.setIfInBounds_toArray]); (try simp only [List.set_cons_succ]); (try simp only [List.set_cons_zero])
                  refine wpAnyH_take (i := 20) (v := ?vn312) rfl (by kernel_rfl) (by kernel_rfl) (by kernel_rfl) (fun _ _ _ h => h) (Or.inl ⟨by rfl, ?hn312⟩) hS ?rn312
                  case hn312 => intro w' hSw; go_simp; (try with_reducible rfl)
                  (try simp only [List.getElem_toArray]); (try simp only [List.getElem_cons_succ]); (try simp only [List.getElem_cons_zero]); (try simp only [Act.put]); (try simp only [List.setIfInBounds_toArray]); (try simp only [List.set_cons_succ]); (try simp only [List.set_cons_zero])
                  refine wpAnyH_take (i := 21) (v := ?vn313) rfl (by kernel_rfl) (by kernel_rfl) (by kernel_rfl) (fun _ _ _ h => h) (Or.inl ⟨by rfl, ?hn313⟩) hS ?rn313
                  case hn313 => intro w' hSw; go_simp; (try with_reducible rfl)
                  (try simp only [List.getElem_toArray]); (try simp only [List.getElem_cons_succ]); (try simp only [List.getElem_cons_zero]); (try simp only [Act.put]); (try simp only [List.setIfInBounds_toArray]); (try simp only [List.set_cons_succ]); (try simp only [List.set_cons_zero])
                  refine wpAnyH_take (i := 22) (v := ?vn314) rfl (by kernel_rfl) (by kernel_rfl) (by kernel_rfl) (fun _ _ _ h => h) (Or.inl ⟨by rfl, ?hn314⟩) hS ?rn314
                  case hn314 => intro w' hSw; go_simp; (try with_reducible rfl)
                  (try simp only [List.getElem_toArray]); (try simp only [List.getElem_cons_succ]); (try simp only [List.getElem_cons_zero]); (try simp only [Act.put]); (try simp only [List.setIfInBounds_toArray]); (try simp only [List.set_cons_succ]); (try simp only [List.set_cons_zero])
                  refine wpAnyH_take (i := 23) (v := ?vn315) rfl (by kernel_rfl) (by kernel_rfl) (by kernel_rfl) (fun _ _ _ h => h) (Or.inl ⟨by rfl, ?hn315⟩) hS ?rn315
                  case hn315 => intro w' hSw; go_simp; (try with_reducible rfl)
                  (try simp only [List.getElem_toArray]); (try simp only [List.getElem_cons_succ]); (try simp only [List.getElem_cons_zero]); (try simp only [Act.put]); (try simp only [List.setIfInBounds_toArray]); (try simp only [List.set_cons_succ]); (try simp only [List.set_cons_zero])
                  refine wpAnyH_take (i := 24) (v := ?vn316) rfl (by kernel_rfl) (by kernel_rfl) (by kernel_rfl) (fun _ _ _ h => h) (Or.inl ⟨by rfl, ?hn316⟩) hS ?rn316
                  case hn316 => intro w' hSw; go_simp; (try with_reducible rfl)
                  (try simp only [List.getElem_toArray]); (try simp only [List.getElem_cons_succ]); (try simp only [List.getElem_cons_zero]); (try simp only [Act.put]); (try simp only [List.setIfInBounds_toArray]); (try simp only [List.set_cons_succ]); (try simp only [List.set_cons_zero])
                  refine wpAnyH_take (i := 25) (v := ?vn317) rfl (by kernel_rfl) (by kernel_rfl) (by kernel_rfl) (fun _ _ _ h => h) (Or.inl ⟨by rfl, ?hn317⟩) hS ?rn317
                  case hn317 => intro w' hSw; go_simp; (try with_reducible rfl)
                  (try simp only [List.getElem_toArray]); (try simp only [List.getElem_cons_succ]); (try simp only [List.getElem_cons_zero]); (try simp only [Act.put]); (try simp only [List.setIfInBounds_toArray]); (try simp only [List.set_cons_succ]); (try simp only [List.set_cons_zero])
                  refine wpAnyH_ready (rs := [26]) (by kernel_rfl) (by simp) ?_
                  refine AllReadyH.cons (o := _) rfl (fun K hK => ?_) AllReadyH.nil
                  rw [if_pos (by rfl)]
                  go_simp
                  go_at_call 14
                  clear hS
                  refine (KF _ rM).mono ?_
                  rintro e w16 ⟨rfl, k16⟩
                  replace XN := XN.keep k16
                  replace XR := XR.keep k16
                  replace XV := XV.keep k16
                  replace rN := rN.below k16
                  replace rX := rX.below k16
                  replace rY := rY.below k16
                  replace rM := rM.below k16
                  replace a0 := a0.below k16
                  replace B := B.trans (k16.mono B.size)
                  clear k16
                  have hS : (∀ o, w16.cell? ⟨b3, o, none⟩ = (#[.slice p0 x.xTape.length c0, .slice p1 x.xUsed.length c1, .int .i64 x.xSent, .slice p2 x.xHeard.length c2, .int .i64 x.xCheat.xWho, .int .i64 x.xCheat.xAt, .int .i64 x.xCheat.xBy, .bool x.xCheat.xCry, .bool x.xQuarrel.xSome, .int .i64 x.xQuarrel.xFrom, .int .i64 x.xQuarrel.xCheck, .int .i64 x.xQuarrel.xTo, .int .i64 x.xQuarrel.xTold, .int .i64 x.xQuarrel.xHeard, .int .i64 x.xQuarrel.xOther, .int .i64 x.xQuarrel.xVowed] : Array Value)[o]?) ∧ (∀ o, w16.cell? ⟨b6, o, none⟩ = (#[.int .i64 R.xCode, .int .i64 R.xMirror.xQ, .slice q0 R.xMirror.xViews.length d0, .slice q1 R.xNet.xTape.length d1, .slice q2 R.xNet.xUsed.length d2, .int .i64 R.xNet.xSent, .slice q3 R.xNet.xHeard.length d3, .int .i64 R.xNet.xCheat.xWho, .int .i64 R.xNet.xCheat.xAt, .int .i64 R.xNet.xCheat.xBy, .bool R.xNet.xCheat.xCry, .bool R.xNet.xQuarrel.xSome, .int .i64 R.xNet.xQuarrel.xFrom, .int .i64 R.xNet.xQuarrel.xCheck, .int .i64 R.xNet.xQuarrel.xTo, .int .i64 R.xNet.xQuarrel.xTold, .int .i64 R.xNet.xQuarrel.xHeard, .int .i64 R.xNet.xQuarrel.xOther, .int .i64 R.xNet.xQuarrel.xVowed] : Array Value)[o]?) ∧ (w16.cell? ⟨gx, ox, none⟩ = some (.int .i64 Q) ∧ w16.cell? ⟨gx, ox + 1, none⟩ = some (v0)) ∧ (∀ o, w16.cell? ⟨b11, o, none⟩ = (#[.int .i64 0, .int .i64 (sm % Q)] : Array Value)[o]?) := ⟨XN.at.1, XR.at.1, a0.2, XV.at.1⟩
                  refine hK.out _ _ hS (fun hS => ?_)
                  clear hK K
                  (try simp only [List.getElem_toArray]); (try simp only [List.getElem_cons_succ]); (try simp only [List.getElem_cons_zero]); (try simp only [Act.put]); (try simp only [List.setIfInBounds_toArray]); (try simp only [List.set_cons_succ]); (try simp only [List.set_cons_zero])
                  refine wpAnyH_take (i := 27) (v := ?vn318) rfl (by kernel_rfl) (by kernel_rfl) (by kernel_rfl) (fun _ _ _ h => h) (Or.inl ⟨by rfl, ?hn318⟩) hS ?rn318
                  case hn318 => intro w' hSw; go_simp; (try with_reducible rfl)
                  (try simp only [List.getElem_toArray]); (try simp only [List.getElem_cons_succ]); (try simp only [List.getElem_cons_zero]); (try simp only [Act.put]); (try simp only [List.setIfInBounds_toArray]); (try simp only [List.set_cons_succ]); (try simp only [List.set_cons_zero])
                  refine wpAnyH_take (i := 28) (v := ?vn319) rfl (by kernel_rfl) (by kernel_rfl) (by kernel_rfl) (fun _ _ _ h => h) (Or.inl ⟨by rfl, ?hn319⟩) hS ?rn319
                  case hn319 => intro w' hSw; go_simp; (try with_reducible rfl)
                  (try simp only [List.getElem_toArray]); (try simp only [List.getElem_cons_succ]); (try simp only [List.getElem_cons_zero]); (try simp only [Act.put]); (try simp only [List.setIfInBounds_toArray]); (try simp only [List.set_cons_succ]); (try simp only [List.set_cons_zero])
                  refine wpAnyH_take (i := 29) (v := ?vn320) rfl (by kernel_rfl) (by kernel_rfl) (by kernel_rfl) (fun _ _ _ h => h) (Or.inl ⟨by rfl, ?hn320⟩) hS ?rn320
                  case hn320 => intro w' hSw; go_simp; (try with_reducible rfl)
                  (try simp only [List.getElem_toArray]); (try simp only [List.getElem_cons_succ]); (try simp only [List.getElem_cons_zero]); (try simp only [Act.put]); (try simp only [List.setIfInBounds_toArray]); (try simp only [List.set_cons_succ]); (try simp only [List.set_cons_zero])
                  refine wpAnyH_done (by kernel_rfl) ?_ _
                  clear hS
                  go_wp2
                  go_ret
                  exact ⟨rfl, B⟩
              · as_aux_lemma =>
                  rw [← HR3.out] at g0 g1 g2
                  have KJ := fun W => impl_JudgeQuarrel (.agg #[.bool R.xNet.xQuarrel.xSome, .int .i64 R.xNet.xQuarrel.xFrom, .int .i64 R.xNet.xQuarrel.xCheck, .int .i64 R.xNet.xQuarrel.xTo, .int .i64 R.xNet.xQuarrel.xTold, .int .i64 R.xNet.xQuarrel.xHeard, .int .i64 R.xNet.xQuarrel.xOther, .int .i64 R.xNet.xQuarrel.xVowed]) R.xNet.xQuarrel W rfl
                  have KL := fun W => lwQuiet_at (.slice p0 x.xTape.length c0) (.slice p1 x.xUsed.length c1) (.int .i64 x.xSent) (.slice p2 x.xHeard.length c2) (.int .i64 x.xCheat.xAt) (.int .i64 x.xCheat.xBy) (.bool x.xCheat.xCry) (.bool x.xQuarrel.xSome) (.int .i64 x.xQuarrel.xFrom) (.int .i64 x.xQuarrel.xCheck) (.int .i64 x.xQuarrel.xTo) (.int .i64 x.xQuarrel.xTold) (.int .i64 x.xQuarrel.xHeard) (.int .i64 x.xQuarrel.xOther) (.int .i64 x.xQuarrel.xVowed) x.xCheat.xWho W
                  have hw : decide (x.xCheat.xWho < 0) = false := by simp; omega
                  rw [hw] at KL
                  rw [g0] at KJ
                  generalize judgeR R.xNet.xQuarrel = JR at *
                  have e6 : (JR.xCode == 0) = true := by simpa using g1
                  have G0 : Hid (R.xNet.xQuarrel.xSome = true) := g0
                  have G2 : Hid (x.xCheat.xWho = JR.xFirst ∨ x.xCheat.xWho = JR.xSecond) := g2
                  clear g0 g1 g2 g3 hal HD hst hs0 hw
                  have XRa := XR.at.1
                  have XRl := XR.lt
                  rw [G0.out] at XRa
                  go_wp2_with fail
                  clear XRa XRl
                  clear rX rY
                  refine (KJ _).mono ?_
                  rintro e w17 ⟨u, rfl, rfl, k17⟩
                  clear KJ
                  replace XN := XN.keep k17
                  replace XR := XR.keep k17
                  replace rN := rN.below k17
                  replace rM := rM.below k17
                  replace B := B.trans (k17.mono B.size)
                  clear k17
                  have XNa := XN.at.1
                  have XNl := XN.lt
                  go_wp2_with fail
                  clear XNa XNl
                  have XJ := Blk.new w17 47 #[.int .i64 JR.xCode, .int .i64 JR.xFirst, .int .i64 JR.xSecond]
                  replace XN := XN.alloc (.cells #[.int .i64 JR.xCode, .int .i64 JR.xFirst, .int .i64 JR.xSecond] 47)
                  replace XR := XR.alloc (.cells #[.int .i64 JR.xCode, .int .i64 JR.xFirst, .int .i64 JR.xSecond] 47)
                  replace rN := rN.below ((Below.refl _ _).alloc (Nat.le_refl _) (.cells #[.int .i64 JR.xCode, .int .i64 JR.xFirst, .int .i64 JR.xSecond] 47))
                  replace rM := rM.below ((Below.refl _ _).alloc (Nat.le_refl _) (.cells #[.int .i64 JR.xCode, .int .i64 JR.xFirst, .int .i64 JR.xSecond] 47))
                  replace B := B.alloc B.size (.cells #[.int .i64 JR.xCode, .int .i64 JR.xFirst, .int .i64 JR.xSecond] 47)
                  generalize w17.heap.size = b10 at *
                  refine Calls.at (F := fun V => Blk V b3 33 #[.slice p0 x.xTape.length c0, .slice p1 x.xUsed.length c1, .int .i64 x.xSent, .slice p2 x.xHeard.length c2, .int .i64 x.xCheat.xWho, .int .i64 x.xCheat.xAt, .int .i64 x.xCheat.xBy, .bool x.xCheat.xCry, .bool x.xQuarrel.xSome, .int .i64 x.xQuarrel.xFrom, .int .i64 x.xQuarrel.xCheck, .int .i64 x.xQuarrel.xTo, .int .i64 x.xQuarrel.xTold, .int .i64 x.xQuarrel.xHeard, .int .i64 x.xQuarrel.xOther, .int .i64 x.xQuarrel.xVowed] ∧ Blk V b6 40 #[.int .i64 R.xCode, .int .i64 R.xMirror.xQ, .slice q0 R.xMirror.xViews.length d0, .slice q1 R.xNet.xTape.length d1, .slice q2 R.xNet.xUsed.length d2, .int .i64 R.xNet.xSent, .slice q3 R.xNet.xHeard.length d3, .int .i64 R.xNet.xCheat.xWho, .int .i64 R.xNet.xCheat.xAt, .int .i64 R.xNet.xCheat.xBy, .bool R.xNet.xCheat.xCry, .bool R.xNet.xQuarrel.xSome, .int .i64 R.xNet.xQuarrel.xFrom, .int .i64 R.xNet.xQuarrel.xCheck, .int .i64 R.xNet.xQuarrel.xTo, .int .i64 R.xNet.xQuarrel.xTold, .int .i64 R.xNet.xQuarrel.xHeard, .int .i64 R.xNet.xQuarrel.xOther, .int .i64 R.xNet.xQuarrel.xVowed] ∧ Blk V b10 47 #[.int .i64 JR.xCode, .int .i64 JR.xFirst, .int .i64 JR.xSecond] ∧ RdNet V (.agg #[.slice p0 x.xTape.length c0, .slice p1 x.xUsed.length c1, .int .i64 x.xSent, .slice p2 x.xHeard.length c2, .int .i64 x.xCheat.xWho, .int .i64 x.xCheat.xAt, .int .i64 x.xCheat.xBy, .bool x.xCheat.xCry, .bool x.xQuarrel.xSome, .int .i64 x.xQuarrel.xFrom, .int .i64 x.xQuarrel.xCheck, .int .i64 x.xQuarrel.xTo, .int .i64 x.xQuarrel.xTold, .int .i64 x.xQuarrel.xHeard, .int .i64 x.xQuarrel.xOther, .int .i64 x.xQuarrel.xVowed]) x ∧ RdMirror V (.agg #[.int .i64 R.xMirror.xQ, .slice q0 R.xMirror.xViews.length d0]) R.xMirror ∧ Below w.heap.size w V) ⟨XN, XR, XJ, rN, rM, B⟩ ?_
                  clear XN XR XJ rN rM B
                  rintro V18 ⟨XN, XR, XJ, rN, rM, B⟩
                  refine (KL _).mono ?_
                  rintro e w19 ⟨rfl, k19⟩
                  clear KL
                  replace XN := XN.keep k19
                  replace XR := XR.keep k19
                  replace XJ := XJ.keep k19
                  replace rN := rN.below k19
                  replace rM := rM.below k19
                  replace B := B.trans (k19.mono B.size)
                  clear k19
                  by_cases hA : JR.xFirst = x.xCheat.xWho
                  · have e7 : (JR.xFirst == x.xCheat.xWho) = true := by simpa using hA
                    clear hA
                    have XNa := XN.at.1
                    have XNl := XN.lt
                    have XJa := XJ.at.1
                    have XJl := XJ.lt
                    go_wp2
                    go_ret
                    exact ⟨rfl, B⟩
                  · have e7 : (JR.xFirst == x.xCheat.xWho) = false := by simpa using hA
                    have e8 : (JR.xSecond == x.xCheat.xWho) = true := by rcases G2.out with h | h; (exact absurd h.symm hA); (simpa using h.symm)
                    clear hA
                    have XNa := XN.at.1
                    have XNl := XN.lt
                    have XJa := XJ.at.1
                    have XJl := XJ.lt
                    go_wp2
                    go_ret
                    exact ⟨rfl, B⟩
    · as_aux_lemma =>
        have ef : (R.xCode != 0) = true := by simpa using hf
        have eq : (R.xCode == R.xCode) = true := by simp
        clear hf HR1 HR2
        have Zr := Blk.new w2 40 #[.int .i64 0, .int .i64 0, .slice none 0 0, .slice none 0 0, .slice none 0 0, .int .i64 0, .slice none 0 0, .int .i64 0, .int .i64 0, .int .i64 0, .bool false, .bool false, .int .i64 0, .int .i64 0, .int .i64 0, .int .i64 0, .int .i64 0, .int .i64 0, .int .i64 0]
        go_wp2_with (refine wpList_store_blk rfl 40 _ _ rfl w2.heap.size (#[.int .i64 R.xCode, .int .i64 R.xMirror.xQ, .slice q0 R.xMirror.xViews.length d0, .slice q1 R.xNet.xTape.length d1, .slice q2 R.xNet.xUsed.length d2, .int .i64 R.xNet.xSent, .slice q3 R.xNet.xHeard.length d3, .int .i64 R.xNet.xCheat.xWho, .int .i64 R.xNet.xCheat.xAt, .int .i64 R.xNet.xCheat.xBy, .bool R.xNet.xCheat.xCry, .bool R.xNet.xQuarrel.xSome, .int .i64 R.xNet.xQuarrel.xFrom, .int .i64 R.xNet.xQuarrel.xCheck, .int .i64 R.xNet.xQuarrel.xTo, .int .i64 R.xNet.xQuarrel.xTold, .int .i64 R.xNet.xQuarrel.xHeard, .int .i64 R.xNet.xQuarrel.xOther, .int .i64 R.xNet.xQuarrel.xVowed]) rfl rfl Zr rfl (by kernel_rfl) (by kernel_rfl) ?_; intro wy XR O6; have XRa := XR.at.1; have XRl := XR.lt)
        have K6 : Below w2.heap.size w2 wy := ((Below.refl _ _).alloc (Nat.le_refl _) _).trans (O6.toBelow (by simp) (by simp))
        replace XN := XN.keep K6
        replace rN := rN.below K6
        replace rX := rX.below K6
        replace rY := rY.below K6
        replace rM := rM.below K6
        replace B := B.trans (K6.mono B.size)
        clear K6 O6 Zr XRa XRl
        generalize w2.heap.size = b6 at *
        refine wp_region_held (S := fun V => (∀ o, V.cell? ⟨b3, o, none⟩ = (#[.slice p0 x.xTape.length c0, .slice p1 x.xUsed.length c1, .int .i64 x.xSent, .slice p2 x.xHeard.length c2, .int .i64 x.xCheat.xWho, .int .i64 x.xCheat.xAt, .int .i64 x.xCheat.xBy, .bool x.xCheat.xCry, .bool x.xQuarrel.xSome, .int .i64 x.xQuarrel.xFrom, .int .i64 x.xQuarrel.xCheck, .int .i64 x.xQuarrel.xTo, .int .i64 x.xQuarrel.xTold, .int .i64 x.xQuarrel.xHeard, .int .i64 x.xQuarrel.xOther, .int .i64 x.xQuarrel.xVowed] : Array Value)[o]?) ∧ (∀ o, V.cell? ⟨b6, o, none⟩ = (#[.int .i64 R.xCode, .int .i64 R.xMirror.xQ, .slice q0 R.xMirror.xViews.length d0, .slice q1 R.xNet.xTape.length d1, .slice q2 R.xNet.xUsed.length d2, .int .i64 R.xNet.xSent, .slice q3 R.xNet.xHeard.length d3, .int .i64 R.xNet.xCheat.xWho, .int .i64 R.xNet.xCheat.xAt, .int .i64 R.xNet.xCheat.xBy, .bool R.xNet.xCheat.xCry, .bool R.xNet.xQuarrel.xSome, .int .i64 R.xNet.xQuarrel.xFrom, .int .i64 R.xNet.xQuarrel.xCheck, .int .i64 R.xNet.xQuarrel.xTo, .int .i64 R.xNet.xQuarrel.xTold, .int .i64 R.xNet.xQuarrel.xHeard, .int .i64 R.xNet.xQuarrel.xOther, .int .i64 R.xNet.xQuarrel.xVowed] : Array Value)[o]?)) (by kernel_rfl) ?_
        try (change wpAnyH _ _ _ _ _ _ _ _ (World.drew _))
        replace XN := XN.drew
        replace XR := XR.drew
        replace rN := rN.below (Below.refl _ _).drew
        replace rX := rX.below (Below.refl _ _).drew
        replace rY := rY.below (Below.refl _ _).drew
        replace rM := rM.below (Below.refl _ _).drew
        replace B := B.drew
        have hS : (∀ o, wy.drew.cell? ⟨b3, o, none⟩ = (#[.slice p0 x.xTape.length c0, .slice p1 x.xUsed.length c1, .int .i64 x.xSent, .slice p2 x.xHeard.length c2, .int .i64 x.xCheat.xWho, .int .i64 x.xCheat.xAt, .int .i64 x.xCheat.xBy, .bool x.xCheat.xCry, .bool x.xQuarrel.xSome, .int .i64 x.xQuarrel.xFrom, .int .i64 x.xQuarrel.xCheck, .int .i64 x.xQuarrel.xTo, .int .i64 x.xQuarrel.xTold, .int .i64 x.xQuarrel.xHeard, .int .i64 x.xQuarrel.xOther, .int .i64 x.xQuarrel.xVowed] : Array Value)[o]?) ∧ (∀ o, wy.drew.cell? ⟨b6, o, none⟩ = (#[.int .i64 R.xCode, .int .i64 R.xMirror.xQ, .slice q0 R.xMirror.xViews.length d0, .slice q1 R.xNet.xTape.length d1, .slice q2 R.xNet.xUsed.length d2, .int .i64 R.xNet.xSent, .slice q3 R.xNet.xHeard.length d3, .int .i64 R.xNet.xCheat.xWho, .int .i64 R.xNet.xCheat.xAt, .int .i64 R.xNet.xCheat.xBy, .bool R.xNet.xCheat.xCry, .bool R.xNet.xQuarrel.xSome, .int .i64 R.xNet.xQuarrel.xFrom, .int .i64 R.xNet.xQuarrel.xCheck, .int .i64 R.xNet.xQuarrel.xTo, .int .i64 R.xNet.xQuarrel.xTold, .int .i64 R.xNet.xQuarrel.xHeard, .int .i64 R.xNet.xQuarrel.xOther, .int .i64 R.xNet.xQuarrel.xVowed] : Array Value)[o]?) := ⟨XN.at.1, XR.at.1⟩
        refine wpAnyH_take (i := 0) (v := ?vn321) rfl (by kernel_rfl) (by kernel_rfl) (by kernel_rfl) (fun _ _ _ h => h) (Or.inl ⟨by rfl, ?hn321⟩) hS ?rn321
        case hn321 => intro w' hSw; go_simp; (try with_reducible rfl)
        (try simp only [List.getElem_toArray]); (try simp only [List.getElem_cons_succ]); (try simp only [List.getElem_cons_zero]); (try simp only [Act.put]); (try simp only [List.setIfInBounds_toArray]); (try simp only [List.set_cons_succ]); (try simp only [List.set_cons_zero])
        refine wpAnyH_take (i := 1) (v := ?vn322) rfl (by kernel_rfl) (by kernel_rfl) (by kernel_rfl) (fun _ _ _ h => h) (Or.inl ⟨by rfl, ?hn322⟩) hS ?rn322
        case hn322 => intro w' hSw; go_simp; (try with_reducible rfl)
        (try simp only [List.getElem_toArray]); (try simp only [List.getElem_cons_succ]); (try simp only [List.getElem_cons_zero]); (try simp only [Act.put]); (try simp only [List.setIfInBounds_toArray]); (try simp only [List.set_cons_succ]); (try simp only [List.set_cons_zero])
        refine wpAnyH_take (i := 2) (v := ?vn323) rfl (by kernel_rfl) (by kernel_rfl) (by kernel_rfl) (fun _ _ _ h => h) (Or.inl ⟨by rfl, ?hn323⟩) hS ?rn323
        case hn323 => intro w' hSw; go_simp; (try with_reducible rfl)
        (try simp only [List.getElem_toArray]); (try simp only [List.getElem_cons_succ]); (try simp only [List.getElem_cons_zero]); (try simp only [Act.put]); (try simp only [List.setIfInBounds_toArray]); (try simp only [List.set_cons_succ]); (try simp only [List.set_cons_zero])
        refine wpAnyH_take (i := 5) (v := ?vn324) rfl (by kernel_rfl) (by kernel_rfl) (by kernel_rfl) (fun _ _ _ h => h) (Or.inl ⟨by rfl, ?hn324⟩) hS ?rn324
        case hn324 => intro w' hSw; go_simp; (try with_reducible rfl)
        (try simp only [List.getElem_toArray]); (try simp only [List.getElem_cons_succ]); (try simp only [List.getElem_cons_zero]); (try simp only [Act.put]); (try simp only [List.setIfInBounds_toArray]); (try simp only [List.set_cons_succ]); (try simp only [List.set_cons_zero])
        refine wpAnyH_take (i := 6) (v := ?vn325) rfl (by kernel_rfl) (by kernel_rfl) (by kernel_rfl) (fun _ _ _ h => h) (Or.inl ⟨by rfl, ?hn325⟩) hS ?rn325
        case hn325 => intro w' hSw; go_simp; (try with_reducible rfl)
        (try simp only [List.getElem_toArray]); (try simp only [List.getElem_cons_succ]); (try simp only [List.getElem_cons_zero]); (try simp only [Act.put]); (try simp only [List.setIfInBounds_toArray]); (try simp only [List.set_cons_succ]); (try simp only [List.set_cons_zero])
        refine wpAnyH_ready (rs := [3]) (by kernel_rfl) (by simp) ?_
        refine AllReadyH.cons (o := _) rfl (fun K hK => ?_) AllReadyH.nil
        rw [if_pos (by rfl)]
        go_simp
        go_at_call 8
        clear hS
        refine (KRS _ _ _ rN rX rY).mono ?_
        rintro e w20 ⟨u9, bc0, bc1, bc2, bc3, rfl, ON9, -, -, -, -, k20⟩
        obtain ⟨s0, t0, s1, t1, s2, t2, s3, t3, rfl, -⟩ := ON9
        replace XN := XN.keep k20
        replace XR := XR.keep k20
        replace rN := rN.below k20
        replace rX := rX.below k20
        replace rY := rY.below k20
        replace rM := rM.below k20
        replace B := B.trans (k20.mono B.size)
        clear k20
        have hS : (∀ o, w20.cell? ⟨b3, o, none⟩ = (#[.slice p0 x.xTape.length c0, .slice p1 x.xUsed.length c1, .int .i64 x.xSent, .slice p2 x.xHeard.length c2, .int .i64 x.xCheat.xWho, .int .i64 x.xCheat.xAt, .int .i64 x.xCheat.xBy, .bool x.xCheat.xCry, .bool x.xQuarrel.xSome, .int .i64 x.xQuarrel.xFrom, .int .i64 x.xQuarrel.xCheck, .int .i64 x.xQuarrel.xTo, .int .i64 x.xQuarrel.xTold, .int .i64 x.xQuarrel.xHeard, .int .i64 x.xQuarrel.xOther, .int .i64 x.xQuarrel.xVowed] : Array Value)[o]?) ∧ (∀ o, w20.cell? ⟨b6, o, none⟩ = (#[.int .i64 R.xCode, .int .i64 R.xMirror.xQ, .slice q0 R.xMirror.xViews.length d0, .slice q1 R.xNet.xTape.length d1, .slice q2 R.xNet.xUsed.length d2, .int .i64 R.xNet.xSent, .slice q3 R.xNet.xHeard.length d3, .int .i64 R.xNet.xCheat.xWho, .int .i64 R.xNet.xCheat.xAt, .int .i64 R.xNet.xCheat.xBy, .bool R.xNet.xCheat.xCry, .bool R.xNet.xQuarrel.xSome, .int .i64 R.xNet.xQuarrel.xFrom, .int .i64 R.xNet.xQuarrel.xCheck, .int .i64 R.xNet.xQuarrel.xTo, .int .i64 R.xNet.xQuarrel.xTold, .int .i64 R.xNet.xQuarrel.xHeard, .int .i64 R.xNet.xQuarrel.xOther, .int .i64 R.xNet.xQuarrel.xVowed] : Array Value)[o]?) := ⟨XN.at.1, XR.at.1⟩
        refine hK.out _ _ hS (fun hS => ?_)
        clear hK K
        (try simp only [List.getElem_toArray]); (try simp only [List.getElem_cons_succ]); (try simp only [List.getElem_cons_zero]); (try simp only [Act.put]); (try simp only [List.setIfInBounds_toArray]); (try simp only [List.set_cons_succ]); (try simp only [List.set_cons_zero])
        refine wpAnyH_take (i := 4) (v := ?vn326) rfl (by kernel_rfl) (by kernel_rfl) (by kernel_rfl) (fun _ _ _ h => h) (Or.inl ⟨by rfl, ?hn326⟩) hS ?rn326
        case hn326 => intro w' hSw; go_simp; (try with_reducible rfl)
        (try simp only [List.getElem_toArray]); (try simp only [List.getElem_cons_succ]); (try simp only [List.getElem_cons_zero]); (try simp only [Act.put]); (try simp only [List.setIfInBounds_toArray]); (try simp only [List.set_cons_succ]); (try simp only [List.set_cons_zero])
        refine wpAnyH_take (i := 7) (v := ?vn327) rfl (by kernel_rfl) (by kernel_rfl) (by kernel_rfl) (fun _ _ _ h => h) (Or.inl ⟨by rfl, ?hn327⟩) hS ?rn327
        case hn327 => intro w' hSw; go_simp; (try with_reducible rfl)
        (try simp only [List.getElem_toArray]); (try simp only [List.getElem_cons_succ]); (try simp only [List.getElem_cons_zero]); (try simp only [Act.put]); (try simp only [List.setIfInBounds_toArray]); (try simp only [List.set_cons_succ]); (try simp only [List.set_cons_zero])
        refine wpAnyH_take (i := 8) (v := ?vn328) rfl (by kernel_rfl) (by kernel_rfl) (by kernel_rfl) (fun _ _ _ h => h) (Or.inl ⟨by rfl, ?hn328⟩) hS ?rn328
        case hn328 => intro w' hSw; go_simp; (try with_reducible rfl)
        (try simp only [List.getElem_toArray]); (try simp only [List.getElem_cons_succ]); (try simp only [List.getElem_cons_zero]); (try simp only [Act.put]); (try simp only [List.setIfInBounds_toArray]); (try simp only [List.set_cons_succ]); (try simp only [List.set_cons_zero])
        refine wpAnyH_done (by kernel_rfl) ?_ _
        clear hS
        go_wp2
        go_ret
        exact ⟨rfl, B⟩

/-! the row's step -/
set_option maxRecDepth 100000 in
theorem lifted (os : Os) (started : os.Started) (H : Type) (enc : TypeId × Value → H) :
    ReturnsInHanded {} Tryz.checked os 3 .any (Rows.fnDotsSpec.pre6 enc Tryz.prog Tryz.f3 Rows.fnDotsRow.domain false) (Rows.fnDotsSpec.post enc Tryz.prog Tryz.f3 false true false false) := by
  refine returnsInHanded_of_change (C := Tryz.checked) own started (by kernel_rfl) Tryz.func3
    (ChangeSpec.witness6 (enc := enc) (C := Tryz.checked) false ⟨#[], #[.slice none 0 0], []⟩ 8 (by kernel_rfl) (by kernel_rfl) (by kernel_rfl) (by kernel_rfl)) ?_
  intro W base args ds gs before hval0 hW hcnd _
  have hval : ∀ (j : Nat) t v, Tryz.f3.params[j]? = some t → args[j]? = some v → Value.okWide Tryz.prog W .any base t v := hval0
  have hW' := hW
  obtain ⟨p, q, hA0, hV, rfl, hfz, hnd⟩ := hW
  have hA : DataW.TrodAll enc Tryz.prog W 0 (fun _ => true) true Tryz.f3.params.toList args.toList ds p := hA0
  rw [Tryz.params3] at hA hval
  obtain ⟨v0, vs0, d0, ds0, p0, q0, hargs, rfl, rfl, h0, r0⟩ := trodAll_cons hA
  obtain ⟨rfl, rfl, rfl⟩ := trodAll_nil r0
  obtain rfl : args = #[v0] := by cases args; simp_all
  obtain ⟨rfl, rfl⟩ := trodVars_none hV
  obtain ⟨a0, len0, cap0, rfl⟩ := okWide_slice Tryz.underlying22 (hval 0 22 v0 rfl rfl)
  have k0 := h0
  have lt0 : ∀ x ∈ p0, x.block < W.heap.size := by obtain ⟨m, hm⟩ := k0; exact DataW.trod_lt m _ _ _ hm
  obtain ⟨z0, w0⟩ : ∃ zs, IsRow .u8 W a0 len0 cap0 zs := by
    obtain ⟨fuel, hf⟩ := h0
    rcases open_ints Tryz.underlying22 Tryz.underlying5 (by kernel_rfl) hf with ⟨hcs, _⟩ | ⟨x, l, c, zs, hcs, _, hl, hm, hz, _, hcell, hwz⟩
    · simp [Value.cells] at hcs
      obtain ⟨rfl, rfl, rfl⟩ := hcs
      exact ⟨[], .inl ⟨rfl, rfl, rfl, rfl⟩⟩
    · simp [Value.cells] at hcs
      obtain ⟨rfl, rfl, rfl⟩ := hcs
      exact ⟨zs, .inr ⟨_, rfl, hl, hm, by simpa using hz, hcell, hwz⟩⟩
  clear hA0 hval0
  refine (walk a0 len0 cap0 z0 W w0).mono fun e W' ⟨he, bel⟩ => ?_
  subst he
  exact ⟨_, rfl, _, _, _, [], _, [], hW', trodAll_mk1 (shut_bool Tryz.underlying4 _), (trodAll_cons_mk (Below.trod laidOut (by kernel_rfl) (of_decide_eq_true (by kernel_rfl)) k0 bel lt0) trodAll_mk0), rfl, bel.frame _, fun h => by cases h⟩

theorem over : Rows.fnDotsRow.holds Tryz.pinned (OpenSpec.ofChange Rows.fnDotsSpec) :=
  OpenClaim.holds_of_wide 3 Tryz.f3 rfl rfl rfl rfl rfl rfl rfl ⟨rfl, rfl, rfl, rfl, rfl⟩ rfl rfl rfl rfl rfl (by kernel_rfl) Tryz.func3 (by kernel_rfl)
    (of_decide_eq_true (by kernel_rfl)) (by unfold Func.isWrapper; first | (rw [if_pos (by decide +kernel)]; kernel_rfl) | (rw [if_neg (by decide +kernel)]; exact ⟨rfl, rfl⟩))
    (fun os started H enc _ => lifted os started H enc)

end Go.Proofs.YtepobckhfodngabGreat.fnDots
namespace Go.Proofs.YtepobckhfodngabGreat
theorem fnDots_holds : Rows.FnDotsSaid := fnDots.over
#print axioms fnDots_holds
end Go.Proofs.YtepobckhfodngabGreat
