/-
  Rows of products in the program: DotMirrors.
-/
import Derived.Test.YtepobckhfodngalGreatDotW
import Derived.Deep.Cut
import Derived.Test.YtepobckhfodngalGreatSpC
namespace Go.Proofs.YtepobckhfodngalGreat
open Go.ChangeShapes Go.WideShapes Go.ChangeAt Go.RowKit
set_option linter.unusedVariables false

/-- a mirror and a net, piece by piece, are an answer -/
theorem OutMix.of {w W W' : World} {x : MNet} {q0 q1 : Option Addr} {gH d0 d1 d2 : Nat} {bt b1 b2 : List Nat} {m : MMirror} {p : Option Addr} {c : Nat} {bm : List Nat} (cd : Int)
    (T : Mat W (.slice q0 x.xTape.length d0) x.xTape bt) (U : Ints W (.slice q1 x.xUsed.length d1) x.xUsed b1) (H : MatT W (.slice (some ⟨gH, 0, none⟩) x.xHeard.length d2) x.xHeard b2) (e01 : Dj bt b1) (e02 : Dj bt b2) (e12 : Dj b1 b2)
    (hf : ∀ y ∈ bt ++ (b1 ++ b2), w.heap.size ≤ y ∧ W'.heap[y]? = W.heap[y]?) (M : Mat W' (.slice p m.xViews.length c) m.xViews bm) (hm : ∀ y ∈ bm, w.heap.size ≤ y ∧ y ∉ bt ++ (b1 ++ b2)) (B : Below w.heap.size w W') :
    OutMix w W' ⟨cd, m, x⟩ (.returned (.agg #[.int .i64 cd, .int .i64 m.xQ, .slice p m.xViews.length c, .slice q0 x.xTape.length d0, .slice q1 x.xUsed.length d1, .int .i64 x.xSent, .slice (some ⟨gH, 0, none⟩) x.xHeard.length d2, .int .i64 x.xCheat.xWho, .int .i64 x.xCheat.xAt, .int .i64 x.xCheat.xBy, .bool x.xCheat.xCry, .bool x.xQuarrel.xSome, .int .i64 x.xQuarrel.xFrom, .int .i64 x.xQuarrel.xCheck, .int .i64 x.xQuarrel.xTo, .int .i64 x.xQuarrel.xTold, .int .i64 x.xQuarrel.xHeard, .int .i64 x.xQuarrel.xOther, .int .i64 x.xQuarrel.xVowed])) :=
  ⟨_, bm, bt, b1, b2, rfl, ⟨p, c, q0, d0, q1, d1, some ⟨gH, 0, none⟩, d2, rfl, M, T.frame (fun g hg => (hf g (by simp [hg])).2), U.frame (fun g hg => (hf g (by simp [hg])).2), (H.frame (fun g hg => (hf g (by simp [hg])).2)).mat, (fun g hg hh => (hm g hg).2 (by simp [hh])), (fun g hg hh => (hm g hg).2 (by simp [hh])), (fun g hg hh => (hm g hg).2 (by simp [hh])), e01, e02, e12⟩, fun y hy => (hm y hy).1, fun y hy => (hf y (by simp [hy])).1, fun y hy => (hf y (by simp [hy])).1, fun y hy => (hf y (by simp [hy])).1, B⟩
/-- what a row of products answers where c is the code -/
def dotR (c : Int) (x : MNet) (xs ys : List MMirror) : MMixResult :=
  if c = 0 then ⟨0, mOf (dotX (xs.getD 0 zM).xQ (vsOf xs) (vsOf ys) xs.length x).xQuarrel.xSome (xs.getD 0 zM).xQ (dotS (xs.getD 0 zM).xQ (vsOf xs) (vsOf ys) xs.length x), dotX (xs.getD 0 zM).xQ (vsOf xs) (vsOf ys) xs.length x⟩ else badM c
theorem dotR_bad {c : Int} {x : MNet} {xs ys : List MMirror} (h : c ≠ 0) : dotR c x xs ys = badM c := if_neg h
theorem dotR_ok {x : MNet} {xs ys : List MMirror} {q : Int} {n : Nat} (hq : (xs.getD 0 zM).xQ = q) (hn : xs.length = n) : dotR 0 x xs ys = ⟨0, mOf (dotX q (vsOf xs) (vsOf ys) n x).xQuarrel.xSome q (dotS q (vsOf xs) (vsOf ys) n x), dotX q (vsOf xs) (vsOf ys) n x⟩ := by
  subst hq hn
  exact if_pos rfl
theorem vsOf_out (xs : List MMirror) (t : Nat) (h : ¬ t < xs.length) : (vsOf xs).getD t [] = [] := by
  unfold vsOf
  rw [List.getD_eq_getElem?_getD, List.getElem?_eq_none (by rw [List.length_map]; omega)]
  rfl
theorem pt_nil (i j : Nat) : pt [] i j = 0 := rfl
theorem sq_of {q : Int} {xs : List MMirror} (h : ∀ j, j < xs.length → OkM q (xs.getD j zM)) (t : Nat) (ht : t < xs.length) : Sq ((vsOf xs).getD t []) := by
  rw [vsOf_getD xs t ht]
  have := mirC_zero (h t ht).1
  exact ⟨this.2.1, this.2.2.1⟩
theorem bdT_of {q : Int} {xs : List MMirror} (hq : q = 2 ∨ q = 256) (h : ∀ j, j < xs.length → OkM q (xs.getD j zM)) : BdT q (vsOf xs) := by
  intro t i j
  by_cases ht : t < xs.length
  · rw [vsOf_getD xs t ht]
    have := (mirC_zero (h t ht).1).2.2.2.1 i j
    rw [(h t ht).2] at this
    exact this
  · rw [vsOf_out xs t ht, pt_nil]
    omega
theorem ownT_of {q : Int} {xs : List MMirror} (h : ∀ j, j < xs.length → OkM q (xs.getD j zM)) : OwnT (vsOf xs) := by
  intro t p
  by_cases ht : t < xs.length
  · rw [vsOf_getD xs t ht]
    have hm := mirC_zero (h t ht).1
    by_cases hp : p < 4
    · exact hm.2.2.2.2 p hp
    · unfold pt
      have : (xs.getD t zM).xViews.getD p [] = [] := by
        rw [List.getD_eq_getElem?_getD, List.getElem?_eq_none (by rw [hm.2.1]; omega)]
        rfl
      rw [this]
      rfl
  · rw [vsOf_out xs t ht, pt_nil]
theorem rowOk_of {q : Int} {n : Nat} {xs ys : List MMirror} (hn : 1 ≤ n ∧ n ≤ 6) (lx : xs.length = n) (ly : ys.length = n) (hx : ∀ j, j < xs.length → OkM q (xs.getD j zM)) (hy : ∀ j, j < ys.length → OkM q (ys.getD j zM)) : RowOk q n xs ys := by
  have hq : q = 2 ∨ q = 256 := by
    have h0 := hx 0 (by omega)
    have := (mirC_zero h0.1).1
    rw [h0.2] at this
    exact this
  exact ⟨lx, ly, hq, hn, fun t ht => sq_of hx t (by omega), fun t ht => sq_of hy t (by omega), bdT_of hq hx, bdT_of hq hy, ownT_of hx⟩
theorem lsC_two {q : Int} {xs ys : List MMirror} (h : lsC q [xs, ys] = 0) : mirsC q xs = 0 ∧ mirsC q ys = 0 := by
  unfold lsC at h
  by_cases h1 : mirsC q xs = 0
  · rw [if_pos h1] at h
    unfold lsC at h
    by_cases h2 : mirsC q ys = 0
    · exact ⟨h1, h2⟩
    · rw [if_neg h2] at h; exact absurd h h2
  · rw [if_neg h1] at h; exact absurd h h1
theorem dotCI_zero {x : MNet} {xs ys : List MMirror} (h : dotCI x xs ys = 0) : netC x = 0 ∧ x.xQuarrel.xSome = false ∧ RowOk (xs.getD 0 zM).xQ xs.length xs ys := by
  by_cases h1 : quietC x = 0
  · by_cases h2 : dotM xs ys
    · rw [dotCI_ls h1 h2] at h
      obtain ⟨a, b⟩ := lsC_two h
      refine ⟨?_, ?_, rowOk_of ⟨h2.1, h2.2.1⟩ rfl h2.2.2 (mirsC_zero a) (mirsC_zero b)⟩
      · unfold quietC at h1
        by_cases k0 : netC x = 0
        · exact k0
        · rw [if_neg k0] at h1; exact h1
      · unfold quietC at h1
        by_cases k0 : netC x = 0
        · rw [if_pos k0] at h1
          by_cases k1 : x.xQuarrel.xSome = true
          · rw [if_pos k1] at h1; cases h1
          · simpa using k1
        · rw [if_neg k0] at h1; exact absurd h1 k0
    · rw [dotCI_many h1 h2] at h; cases h
  · rw [dotCI_net h1] at h; exact absurd h h1
set_option maxHeartbeats 8000000 in
set_option maxRecDepth 100000 in
theorem impl_DotMirrors (vv : Value) (x : MNet) (v u : Value) (xs ys : List MMirror) (w : World) (hv : RdNet w vv x) (hx : Fit x) (h1 : RdMirrorS w v xs) (h2 : RdMirrorS w u ys) :
    Calls Tryz.prog 37 #[vv, v, u] w fun e w' => OutMix w w' (dotR (dotCI x xs ys) x xs ys) e := by
  have KF := fun W (hb : Below w.heap.size w W) => impl_dotFault vv x v u xs ys W (hv.below hb) (h1.below hb) (h2.below hb)
  have KC := fun W (hb : Below w.heap.size w W) => impl_copyOfNetT vv x W (hv.below hb) hx
  obtain ⟨cs, rfl, R⟩ := hv.row
  have hR := R.hi (P := Tryz.prog) (T := 41) (by kernel_rfl)
  have B0 : Below w.heap.size w ((w.alloc (.cells cs 41)).alloc (.cells #[.int .i64 0, .int .i64 0, .slice none 0 0, .slice none 0 0, .slice none 0 0, .int .i64 0, .slice none 0 0, .int .i64 0, .int .i64 0, .int .i64 0, .bool false, .bool false, .int .i64 0, .int .i64 0, .int .i64 0, .int .i64 0, .int .i64 0, .int .i64 0, .int .i64 0] 43)) := (by repeat (first | exact Below.refl _ _ | refine Below.drew ?_ | refine below_drewN ?_ _ | refine Below.setCell ?_ (by first | omega | (simp; done) | (simp; omega)) _ | refine Below.alloc ?_ (by first | omega | (simp; done) | (simp; omega)) _))
  have X0 : Blk ((w.alloc (.cells cs 41)).alloc (.cells #[.int .i64 0, .int .i64 0, .slice none 0 0, .slice none 0 0, .slice none 0 0, .int .i64 0, .slice none 0 0, .int .i64 0, .int .i64 0, .int .i64 0, .bool false, .bool false, .int .i64 0, .int .i64 0, .int .i64 0, .int .i64 0, .int .i64 0, .int .i64 0, .int .i64 0] 43)) w.heap.size 41 cs := (Blk.new w _ _).alloc _
  have Y0 : Blk ((w.alloc (.cells cs 41)).alloc (.cells #[.int .i64 0, .int .i64 0, .slice none 0 0, .slice none 0 0, .slice none 0 0, .int .i64 0, .slice none 0 0, .int .i64 0, .int .i64 0, .int .i64 0, .bool false, .bool false, .int .i64 0, .int .i64 0, .int .i64 0, .int .i64 0, .int .i64 0, .int .i64 0, .int .i64 0] 43)) (w.heap.size + 1) 43 #[.int .i64 0, .int .i64 0, .slice none 0 0, .slice none 0 0, .slice none 0 0, .int .i64 0, .slice none 0 0, .int .i64 0, .int .i64 0, .int .i64 0, .bool false, .bool false, .int .i64 0, .int .i64 0, .int .i64 0, .int .i64 0, .int .i64 0, .int .i64 0, .int .i64 0] := by simpa using Blk.new (w.alloc (.cells cs 41)) 43 #[.int .i64 0, .int .i64 0, .slice none 0 0, .slice none 0 0, .slice none 0 0, .int .i64 0, .slice none 0 0, .int .i64 0, .int .i64 0, .int .i64 0, .bool false, .bool false, .int .i64 0, .int .i64 0, .int .i64 0, .int .i64 0, .int .i64 0, .int .i64 0, .int .i64 0]
  have sz0 : ((w.alloc (.cells cs 41)).alloc (.cells #[.int .i64 0, .int .i64 0, .slice none 0 0, .slice none 0 0, .slice none 0 0, .int .i64 0, .slice none 0 0, .int .i64 0, .int .i64 0, .int .i64 0, .bool false, .bool false, .int .i64 0, .int .i64 0, .int .i64 0, .int .i64 0, .int .i64 0, .int .i64 0, .int .i64 0] 43)).heap.size = w.heap.size + 1 + 1 := by simp
  clear hv R
  by_cases hc : dotCI x xs ys = 0
  · obtain ⟨zn, hqs, RO⟩ := dotCI_zero hc
    rw [hc] at KF ⊢
    have NB := NetB.of zn hx
    have hH0 : 0 < x.xHeard.length := by rw [NB.h4]; omega
    obtain ⟨ga, oa, ca, rfl, la⟩ := h1.shape RO.lx RO.hn.1
    have hql := RO.ly
    have c0 := h1.q0 RO.hn.1
    have KRow := fun W (hb : Below w.heap.size w W) => impl_rowOf (xs.getD 0 zM).xQ _ _ xs.length xs ys W (h1.below hb) (h2.below hb) RO.lx RO.ly RO.hn RO.sx RO.sy rfl
    have KD := fun W gx cx gy cy b bs hN hX hY n1 n2 => impl_dot (xs.getD 0 zM).xQ gx cx gy cy xs.length (vsOf xs) (vsOf ys) b x bs 0 W hN NB (by omega) hX hY RO.hq RO.hn.2 RO.bx RO.by' n1 n2
    have HOK := (show Hid _ from dot_ok RO.hq (vsOf xs) (vsOf ys) xs.length NB)
    have HRES : Hid (dotR 0 x xs ys = _) := dotR_ok rfl rfl
    obtain ⟨pb, cb, eu⟩ := h2.shp
    subst eu
    have hn0 : (0 : Int) < (xs.length : Int) := by have := RO.hn; omega
    have hn1 : 0 < xs.length := by have := RO.hn; omega
    clear RO hc hql h1 h2 hqs zn NB
    generalize dotX (xs.getD 0 zM).xQ (vsOf xs) (vsOf ys) xs.length x = x2 at *
    generalize dotS (xs.getD 0 zM).xQ (vsOf xs) (vsOf ys) xs.length x = fs at *
    have HFL : Hid (fs.length = 16) := HOK.out.2.1
    have HH2 : Hid (0 < x2.xHeard.length) := by have := HOK.out.1.h4; show _ < _; omega
    clear HOK
    generalize (xs.getD 0 zM).xQ = q at *
    generalize xs.length = n at *
    generalize vsOf xs = xss at *
    generalize vsOf ys = yss at *
    go_enter Tryz.func37, Tryz.ntmps37
    go_wp2_with (refine wpList_load_blk rfl 41 _ rfl w.heap.size rfl X0 Tryz.underlying41 rfl hR ?_)
    refine (KF _ B0).mono ?_
    rintro e w1 ⟨rfl, hb1⟩
    have X1 := X0.keep hb1
    have Y1 := Y0.keep hb1
    have B1 := B0.trans (hb1.mono B0.size)
    have sz1 := hb1.size
    rw [sz0] at sz1
    clear X0 Y0 B0 hb1 KF sz0
    go_wp2_with (refine wpList_load_blk rfl 41 _ rfl w.heap.size rfl X1 Tryz.underlying41 rfl hR ?_)
    refine (KC _ B1).mono ?_
    rintro e w1b ⟨q0, d0, q1, d1, q2, d2, bt, b1, b2, rfl, T1, U1, H1, j01, j02, j12, f0, f1, f2, hb1⟩
    have Y2 := Y1.keep hb1
    have B2 := B1.trans (hb1.mono B1.size)
    have sz2 := Nat.le_trans sz1 hb1.size
    have fw0 := fun y hy => Nat.le_trans sz1 (f0 y hy)
    have fw1 := fun y hy => Nat.le_trans sz1 (f1 y hy)
    have fw2 := fun y hy => Nat.le_trans sz1 (f2 y hy)
    clear X1 Y1 B1 hb1 f0 f1 f2 KC sz1
    have Zn := Blk.new w1b 41 #[.slice none 0 0, .slice none 0 0, .int .i64 0, .slice none 0 0, .int .i64 0, .int .i64 0, .int .i64 0, .bool false, .bool false, .int .i64 0, .int .i64 0, .int .i64 0, .int .i64 0, .int .i64 0, .int .i64 0, .int .i64 0]
    go_wp2_with (refine wpList_store_blk rfl 41 _ _ rfl w1b.heap.size #[.slice q0 x.xTape.length d0, .slice q1 x.xUsed.length d1, .int .i64 x.xSent, .slice q2 x.xHeard.length d2, .int .i64 x.xCheat.xWho, .int .i64 x.xCheat.xAt, .int .i64 x.xCheat.xBy, .bool x.xCheat.xCry, .bool x.xQuarrel.xSome, .int .i64 x.xQuarrel.xFrom, .int .i64 x.xQuarrel.xCheck, .int .i64 x.xQuarrel.xTo, .int .i64 x.xQuarrel.xTold, .int .i64 x.xQuarrel.xHeard, .int .i64 x.xQuarrel.xOther, .int .i64 x.xQuarrel.xVowed] rfl rfl Zn rfl (by kernel_rfl) (by kernel_rfl) ?_; intro w2 Z2 O2)
    have O2' : Off [w1b.heap.size] w1b w2 := ((Off.refl _ _).alloc _).trans O2
    have N2 : NetIn w2 w1b.heap.size x (bt ++ (b1 ++ b2)) := NetIn.of Z2 (T1.off O2' (fun y hy hm => by have := T1.lt y hy; simp at hm; omega)) (U1.off O2' (fun y hy hm => by have := U1.lt y hy; simp at hm; omega)) (H1.off O2' (fun y hy hm => by have := H1.lt y hy; simp at hm; omega)) (fun hm => Nat.lt_irrefl _ (T1.lt _ hm)) (fun hm => Nat.lt_irrefl _ (U1.lt _ hm)) (fun hm => Nat.lt_irrefl _ (H1.lt _ hm)) j01 j02 j12 hH0
    have Y3 := Y2.off O2' (by simp; omega)
    have B3 : Below w.heap.size w w2 := B2.trans (O2'.toBelow B2.size (by have := B2.size; simp; omega))
    have hbs : ∀ y ∈ bt ++ (b1 ++ b2), w.heap.size + 1 + 1 ≤ y := fun y hy => by rcases List.mem_append.1 hy with h | h; (exact fw0 y h); (rcases List.mem_append.1 h with h | h; (exact fw1 y h); (exact fw2 y h))
    have lZ := Z2.lt
    clear Zn T1 U1 H1 O2 O2' Y2 B2 fw0 fw1 fw2 Z2 j01 j02 j12
    generalize bt ++ (b1 ++ b2) = bs at *
    generalize w1b.heap.size = g at *
    go_wp2_with fail
    refine (KRow _ B3).mono ?_
    rintro e w3 ⟨gx, cx, gy, cy, rfl, hX, hY, hgx, hgy, hb3⟩
    have lbs := N2.lts
    have N3 := N2.keep hb3
    have Y4 := Y3.keep hb3
    have B4 := B3.trans (hb3.mono B3.size)
    have nx : gx ∉ g :: bs := fun hm => by rcases List.mem_cons.1 hm with h | h; omega; (have := lbs _ h; omega)
    have ny : gy ∉ g :: bs := fun hm => by rcases List.mem_cons.1 hm with h | h; omega; (have := lbs _ h; omega)
    have z3 := hb3.size
    clear N2 Y3 B3 hb3 KRow
    go_wp2_with fail
    refine (KD _ gx cx gy cy g bs N3 hX hY nx ny).mono ?_
    rintro e w4 ⟨rfl, bn, N5, hbn, O5⟩
    have hgg : ∀ y ∈ g :: bs, w.heap.size + 1 + 1 ≤ y := fun y hy => by rcases List.mem_cons.1 hy with h | h; omega; (exact hbs y h)
    have Y5 := Y4.off O5 (fun hm => by have := hgg _ hm; omega)
    have B5 := B4.trans (O5.toBelow B4.size (fun y hy => by have := hgg y hy; omega))
    have hbn2 : ∀ y ∈ bn, w.heap.size + 1 + 1 ≤ y := fun y hy => by rcases hbn y hy with h | h; (exact hbs y h); omega
    have z5 := O5.size
    have lg5 := N5.lt
    clear N3 Y4 B4 hX hY nx ny KD O5 hbn hgg
    have HL17 : Hid ((q :: fs).length = 17) := by show _ = _; rw [List.length_cons, HFL.out]
    have Vn := Blk.new w4 89 #[.int .i64 0, .int .i64 0, .int .i64 0, .int .i64 0, .int .i64 0, .int .i64 0, .int .i64 0, .int .i64 0, .int .i64 0, .int .i64 0, .int .i64 0, .int .i64 0, .int .i64 0, .int .i64 0, .int .i64 0, .int .i64 0, .int .i64 0]
    go_upto_region 6 with (refine wpList_store_blk rfl 89 _ _ rfl w4.heap.size (cells1 (q :: fs)) rfl rfl Vn (by rw [cells1_size, HL17.out]; rfl) (by rw [cells1_size, HL17.out]; kernel_rfl) (cells1_one _) ?_; intro w5 V5 O6)
    have O6' : Off [w4.heap.size] w4 w5 := ((Off.refl _ _).alloc _).trans O6
    have N6 := N5.off O6' (by simp; omega) (fun y hy hm => by have := N5.lts y hy; simp at hm; omega)
    have Y6 := Y5.off O6' (by simp; omega)
    have B6 := B5.trans (O6'.toBelow B5.size (by have := B5.size; simp; omega))
    have lv := V5.lt
    have hgv : g < w4.heap.size := lg5
    clear Vn O6 O6' N5 Y5 B5
    generalize w4.heap.size = gv at *
    have hlts := N6.lts
    obtain ⟨q0, q1, gH, d0, d1, d2, bt, b1, b2, Z6, T6, U6, H6, -, -, -, k01, k02, k12, rfl⟩ := N6
    have HFR : Hid (∀ V, Off [w.heap.size + 1] w5 V → ∀ y ∈ bt ++ (b1 ++ b2), V.heap[y]? = w5.heap[y]?) := fun V O y hy => O.block y (hlts y hy) (by have := hbn2 y hy; simp; omega)
    have lgy : w.heap.size + 1 < w5.heap.size := Y6.lt
    have KX := fun W => impl_mixOf q fs x2 q0 q1 gH d0 d1 d2 W HFL.out
    go_wp2_with (first | (refine wpList_load_blk rfl 89 _ rfl gv rfl V5 Tryz.underlying89 rfl (by rw [cells1_size, HL17.out]; kernel_rfl) ?_) | (refine wpList_load_blk rfl 41 _ rfl g rfl Z6 Tryz.underlying41 rfl (by kernel_rfl) ?_))
    refine (KX _).mono ?_
    rintro e w6 ⟨p, c, rfl, bm, hM, hbm, hb6⟩
    have Y7 := Y6.keep hb6
    have B7 := B6.trans (hb6.mono B6.size)
    clear V5 Z6 Y6 B6 KX
    go_wp2_with (refine wpList_store_blk rfl 43 _ _ rfl (w.heap.size + 1) (#[.int .i64 0, .int .i64 (mOf x2.xQuarrel.xSome q fs).xQ, .slice p (mOf x2.xQuarrel.xSome q fs).xViews.length c, .slice q0 x2.xTape.length d0, .slice q1 x2.xUsed.length d1, .int .i64 x2.xSent, .slice (some ⟨gH, 0, none⟩) x2.xHeard.length d2, .int .i64 x2.xCheat.xWho, .int .i64 x2.xCheat.xAt, .int .i64 x2.xCheat.xBy, .bool x2.xCheat.xCry, .bool x2.xQuarrel.xSome, .int .i64 x2.xQuarrel.xFrom, .int .i64 x2.xQuarrel.xCheck, .int .i64 x2.xQuarrel.xTo, .int .i64 x2.xQuarrel.xTold, .int .i64 x2.xQuarrel.xHeard, .int .i64 x2.xQuarrel.xOther, .int .i64 x2.xQuarrel.xVowed]) rfl rfl Y7 rfl (by kernel_rfl) (by kernel_rfl) ?_; intro w7 Y8 O8)
    have hbm2 : ∀ y ∈ bm, w5.heap.size ≤ y := hbm
    exact bodyPost_ret (v := .agg #[.int .i64 0, .int .i64 (mOf x2.xQuarrel.xSome q fs).xQ, .slice p (mOf x2.xQuarrel.xSome q fs).xViews.length c, .slice q0 x2.xTape.length d0, .slice q1 x2.xUsed.length d1, .int .i64 x2.xSent, .slice (some ⟨gH, 0, none⟩) x2.xHeard.length d2, .int .i64 x2.xCheat.xWho, .int .i64 x2.xCheat.xAt, .int .i64 x2.xCheat.xBy, .bool x2.xCheat.xCry, .bool x2.xQuarrel.xSome, .int .i64 x2.xQuarrel.xFrom, .int .i64 x2.xQuarrel.xCheck, .int .i64 x2.xQuarrel.xTo, .int .i64 x2.xQuarrel.xTold, .int .i64 x2.xQuarrel.xHeard, .int .i64 x2.xQuarrel.xOther, .int .i64 x2.xQuarrel.xVowed]) (results_blk Tryz.results37 rfl Y8 Tryz.underlying43 rfl (by kernel_rfl)) rfl (by rw [HRES.out]; exact OutMix.of 0 T6 U6 H6 k01 k02 k12 (fun y hy => ⟨by have := hbn2 y hy; omega, HFR.out _ ((Off.ofBelow hb6).trans O8) y hy⟩) (hM.off O8 (fun y hy hm => by have := hbm2 y hy; simp at hm; omega)) (fun y hy => ⟨by have := hbm2 y hy; omega, fun hm => by have := hbm2 y hy; have := hlts y hm; omega⟩) (B7.trans (O8.toBelow B7.size (by simp))))
  · rw [dotR_bad hc]
    have hne : (dotCI x xs ys != 0) = true := by simpa using hc
    obtain ⟨pa, ca, rfl⟩ := h1.shp
    obtain ⟨pb, cb, rfl⟩ := h2.shp
    generalize dotCI x xs ys = r at *
    clear hc h1 h2 KC
    go_enter Tryz.func37, Tryz.ntmps37
    go_wp2_with (refine wpList_load_blk rfl 41 _ rfl w.heap.size rfl X0 Tryz.underlying41 rfl hR ?_)
    refine (KF _ B0).mono ?_
    rintro e w1 ⟨rfl, hb1⟩
    have X1 := X0.keep hb1
    have Y1 := Y0.keep hb1
    have B1 := B0.trans (hb1.mono B0.size)
    have sz1 := hb1.size
    rw [sz0] at sz1
    clear X0 Y0 B0 hb1 KF sz0
    go_wp2_with (refine wpList_store_blk rfl 43 _ _ rfl (w.heap.size + 1) (#[.int .i64 r, .int .i64 0, .slice none 0 0, .slice none 0 0, .slice none 0 0, .int .i64 0, .slice none 0 0, .int .i64 0, .int .i64 0, .int .i64 0, .bool false, .bool false, .int .i64 0, .int .i64 0, .int .i64 0, .int .i64 0, .int .i64 0, .int .i64 0, .int .i64 0]) rfl rfl Y1 rfl (by kernel_rfl) (by kernel_rfl) ?_; intro w9 Y9 O9)
    have B9 : Below w.heap.size w w9 := B1.trans (O9.toBelow B1.size (by simp))
    exact bodyPost_ret (v := .agg #[.int .i64 r, .int .i64 0, .slice none 0 0, .slice none 0 0, .slice none 0 0, .int .i64 0, .slice none 0 0, .int .i64 0, .int .i64 0, .int .i64 0, .bool false, .bool false, .int .i64 0, .int .i64 0, .int .i64 0, .int .i64 0, .int .i64 0, .int .i64 0, .int .i64 0]) (results_blk Tryz.results37 rfl Y9 Tryz.underlying43 rfl (by kernel_rfl)) rfl (OutMix.bad _ B9)
end Go.Proofs.YtepobckhfodngalGreat
