/-
  Many inputs: the program, and the model where a code is told.
-/
import Derived.Test.YtbmemdgeohnpnalGreatGv1
import Derived.Test.YtbmemdgeohnpnalGreatMsG
import Derived.Test.YtbmemdgeohnpnalGreatV5
namespace Go.Proofs.YtbmemdgeohnpnalGreat
open Go.ChangeShapes Go.WideShapes Go.ChangeAt Go.RowKit
set_option linter.unusedVariables false

theorem OutMany.of {w W' : World} {x : MNet} {ms : List MMirror} {pm : Option Addr} {cm : Nat} {bm : List Nat} (cd : Int) {q0 q1 : Option Addr} {gH d0 d1 d2 : Nat} {bt b1 b2 : List Nat}
    (T : Mat W' (.slice q0 x.xTape.length d0) x.xTape bt) (U : Ints W' (.slice q1 x.xUsed.length d1) x.xUsed b1) (H : MatT W' (.slice (some ⟨gH, 0, none⟩) x.xHeard.length d2) x.xHeard b2) (e01 : Dj bt b1) (e02 : Dj bt b2) (e12 : Dj b1 b2)
    (hf : ∀ y ∈ bt ++ (b1 ++ b2), w.heap.size ≤ y) (M : OwMirrorS W' (.slice pm ms.length cm) ms bm) (hm : ∀ y ∈ bm, w.heap.size ≤ y ∧ y ∉ bt ++ (b1 ++ b2)) (B : Below w.heap.size w W') :
    OutMany w W' ⟨cd, ms, x⟩ (.returned (.agg #[.int .i64 cd, .slice pm ms.length cm, .slice q0 x.xTape.length d0, .slice q1 x.xUsed.length d1, .int .i64 x.xSent, .slice (some ⟨gH, 0, none⟩) x.xHeard.length d2, .int .i64 x.xCheat.xWho, .int .i64 x.xCheat.xAt, .int .i64 x.xCheat.xBy, .bool x.xCheat.xCry, .bool x.xQuarrel.xSome, .int .i64 x.xQuarrel.xFrom, .int .i64 x.xQuarrel.xCheck, .int .i64 x.xQuarrel.xTo, .int .i64 x.xQuarrel.xTold, .int .i64 x.xQuarrel.xHeard, .int .i64 x.xQuarrel.xOther, .int .i64 x.xQuarrel.xVowed])) :=
  ⟨_, bm, bt, b1, b2, rfl, ⟨pm, cm, q0, d0, q1, d1, some ⟨gH, 0, none⟩, d2, rfl, M, T, U, H.mat, fun y hy hc => (hm y hy).2 (by simp [hc]), fun y hy hc => (hm y hy).2 (by simp [hc]), fun y hy hc => (hm y hy).2 (by simp [hc]), e01, e02, e12⟩, fun y hy => (hm y hy).1, fun y hy => hf y (by simp [hy]), fun y hy => hf y (by simp [hy]), fun y hy => hf y (by simp [hy]), B⟩
def GvL (w wr : World) (x : MNet) (o : Nat) (vs : List Int) (k n g gN : Nat) (us : List Value) (bi : List (List Nat)) (cs : List Nat) : Prop :=
  Own wr 36 2 (.slice (some ⟨g, 0, none⟩) n n) n (msC us (gvM x o (vs.take k)) ++ zzC (n - k)) [g] ∧ MsR wr us (gvM x o (vs.take k)) bi ∧ (g :: bi.flatten).Nodup ∧ NetIn wr gN (gvX x o (vs.take k)) cs ∧ (∀ y ∈ g :: bi.flatten, w.heap.size + 1 < y ∧ y ≠ gN ∧ y ∉ cs) ∧ (∀ y ∈ gN :: cs, w.heap.size + 1 < y)
theorem take_snoc (vs : List Int) {k : Nat} (h : k < vs.length) : vs.take (k + 1) = vs.take k ++ [vs.getD k 0] := by
  rw [List.take_add_one, List.getD_eq_getElem?_getD, List.getElem?_eq_getElem h]
  rfl
theorem zzC_snoc : ∀ n, zzC (n + 1) = zzC n ++ [.int .i64 0, .slice none 0 0]
  | 0 => rfl
  | n + 1 => by
    show Value.int .i64 0 :: Value.slice none 0 0 :: zzC (n + 1) = (Value.int .i64 0 :: Value.slice none 0 0 :: zzC n) ++ _
    rw [zzC_snoc n]
    rfl
theorem madeM_zz : ∀ n, (madeCells #[Value.int .i64 0, .slice none 0 0] (n * 2)).toList = zzC n := by
  intro n
  have h : ∀ n, (madeCells #[Value.int .i64 0, .slice none 0 0] (n * 2)).toList = (List.range (n * 2)).map (fun i => (#[Value.int .i64 0, .slice none 0 0] : Array Value)[i % 2]!) := fun n => by simp [madeCells]
  rw [h]
  induction n with
  | zero => rfl
  | succ n ih =>
    rw [zzC_snoc, ← ih, show (n + 1) * 2 = n * 2 + 1 + 1 by omega, List.range_succ, List.range_succ, List.map_append, List.map_append, List.append_assoc]
    congr 1
    simp only [List.map_cons, List.map_nil, List.singleton_append]
    rw [show (n * 2) % 2 = 0 by omega, show (n * 2 + 1) % 2 = 1 by omega]
    rfl
theorem elC_bd {vs : List Int} (h : elC 256 vs = 0) (j : Nat) (hj : j < vs.length) : 0 ≤ vs.getD j 0 ∧ vs.getD j 0 < 256 := by
  unfold elC at h
  by_cases k : okE 256 vs = true
  · exact (okE_iff 256 vs).1 k j hj
  · rw [if_neg k] at h; cases h
theorem Tryz.infoMg : (Tryz.prog.info? 36).map (fun i => (i.zero, i.size, i.bytes)) = some (some (.agg #[.int .i64 0, .slice none 0 0]), 2, 32) := by kernel_rfl
set_option maxHeartbeats 8000000 in
set_option maxRecDepth 100000 in
theorem impl_InputMany (vv : Value) (x : MNet) (oo : Int) (lv : Value) (vs : List Int) (w : World) (hv : RdNet w vv x) (hx : Fit x) (hl : Reads w .i64 lv vs) :
    Calls Tryz.prog 23 #[vv, .int .i64 oo, lv] w fun e w' => OutMany w w' (manyR x oo vs) e := by
  have KO := fun W (hb : Below w.heap.size w W) => impl_ownerFault vv x oo W (hv.below hb)
  have KC := fun W (hb : Below w.heap.size w W) => impl_copyOfNetT vv x W (hv.below hb) hx
  have KE := fun W (hb : Below w.heap.size w W) => impl_elementsFault 256 lv vs W (hl.below hb)
  obtain ⟨p0, c0, p1, c1, p2, c2, rfl, g0, g1, g2⟩ := hv
  clear g0 g1 g2
  have hlen := hl.le
  have HLV : Hid (∀ W, Below w.heap.size w W → Reads W .i64 lv vs) := fun W hb => hl.below hb
  obtain ⟨pl, cl, rfl⟩ : ∃ p c, lv = .slice p vs.length c := by obtain ⟨a, c, e, _⟩ := hl; exact ⟨a, c, e⟩
  have B0 : Below w.heap.size w ((w.alloc (.cells #[.slice p0 x.xTape.length c0, .slice p1 x.xUsed.length c1, .int .i64 x.xSent, .slice p2 x.xHeard.length c2, .int .i64 x.xCheat.xWho, .int .i64 x.xCheat.xAt, .int .i64 x.xCheat.xBy, .bool x.xCheat.xCry, .bool x.xQuarrel.xSome, .int .i64 x.xQuarrel.xFrom, .int .i64 x.xQuarrel.xCheck, .int .i64 x.xQuarrel.xTo, .int .i64 x.xQuarrel.xTold, .int .i64 x.xQuarrel.xHeard, .int .i64 x.xQuarrel.xOther, .int .i64 x.xQuarrel.xVowed] 41)).alloc (.cells #[.int .i64 0, .slice none 0 0, .slice none 0 0, .slice none 0 0, .int .i64 0, .slice none 0 0, .int .i64 0, .int .i64 0, .int .i64 0, .bool false, .bool false, .int .i64 0, .int .i64 0, .int .i64 0, .int .i64 0, .int .i64 0, .int .i64 0, .int .i64 0] 56)) := (by repeat (first | exact Below.refl _ _ | refine Below.drew ?_ | refine below_drewN ?_ _ | refine Below.setCell ?_ (by first | omega | (simp; done) | (simp; omega)) _ | refine Below.alloc ?_ (by first | omega | (simp; done) | (simp; omega)) _))
  have X0 : Blk ((w.alloc (.cells #[.slice p0 x.xTape.length c0, .slice p1 x.xUsed.length c1, .int .i64 x.xSent, .slice p2 x.xHeard.length c2, .int .i64 x.xCheat.xWho, .int .i64 x.xCheat.xAt, .int .i64 x.xCheat.xBy, .bool x.xCheat.xCry, .bool x.xQuarrel.xSome, .int .i64 x.xQuarrel.xFrom, .int .i64 x.xQuarrel.xCheck, .int .i64 x.xQuarrel.xTo, .int .i64 x.xQuarrel.xTold, .int .i64 x.xQuarrel.xHeard, .int .i64 x.xQuarrel.xOther, .int .i64 x.xQuarrel.xVowed] 41)).alloc (.cells #[.int .i64 0, .slice none 0 0, .slice none 0 0, .slice none 0 0, .int .i64 0, .slice none 0 0, .int .i64 0, .int .i64 0, .int .i64 0, .bool false, .bool false, .int .i64 0, .int .i64 0, .int .i64 0, .int .i64 0, .int .i64 0, .int .i64 0, .int .i64 0] 56)) w.heap.size 41 #[.slice p0 x.xTape.length c0, .slice p1 x.xUsed.length c1, .int .i64 x.xSent, .slice p2 x.xHeard.length c2, .int .i64 x.xCheat.xWho, .int .i64 x.xCheat.xAt, .int .i64 x.xCheat.xBy, .bool x.xCheat.xCry, .bool x.xQuarrel.xSome, .int .i64 x.xQuarrel.xFrom, .int .i64 x.xQuarrel.xCheck, .int .i64 x.xQuarrel.xTo, .int .i64 x.xQuarrel.xTold, .int .i64 x.xQuarrel.xHeard, .int .i64 x.xQuarrel.xOther, .int .i64 x.xQuarrel.xVowed] := (Blk.new w _ _).alloc _
  have Y0 : Blk ((w.alloc (.cells #[.slice p0 x.xTape.length c0, .slice p1 x.xUsed.length c1, .int .i64 x.xSent, .slice p2 x.xHeard.length c2, .int .i64 x.xCheat.xWho, .int .i64 x.xCheat.xAt, .int .i64 x.xCheat.xBy, .bool x.xCheat.xCry, .bool x.xQuarrel.xSome, .int .i64 x.xQuarrel.xFrom, .int .i64 x.xQuarrel.xCheck, .int .i64 x.xQuarrel.xTo, .int .i64 x.xQuarrel.xTold, .int .i64 x.xQuarrel.xHeard, .int .i64 x.xQuarrel.xOther, .int .i64 x.xQuarrel.xVowed] 41)).alloc (.cells #[.int .i64 0, .slice none 0 0, .slice none 0 0, .slice none 0 0, .int .i64 0, .slice none 0 0, .int .i64 0, .int .i64 0, .int .i64 0, .bool false, .bool false, .int .i64 0, .int .i64 0, .int .i64 0, .int .i64 0, .int .i64 0, .int .i64 0, .int .i64 0] 56)) (w.heap.size + 1) 56 #[.int .i64 0, .slice none 0 0, .slice none 0 0, .slice none 0 0, .int .i64 0, .slice none 0 0, .int .i64 0, .int .i64 0, .int .i64 0, .bool false, .bool false, .int .i64 0, .int .i64 0, .int .i64 0, .int .i64 0, .int .i64 0, .int .i64 0, .int .i64 0] := by simpa using Blk.new (w.alloc (.cells #[.slice p0 x.xTape.length c0, .slice p1 x.xUsed.length c1, .int .i64 x.xSent, .slice p2 x.xHeard.length c2, .int .i64 x.xCheat.xWho, .int .i64 x.xCheat.xAt, .int .i64 x.xCheat.xBy, .bool x.xCheat.xCry, .bool x.xQuarrel.xSome, .int .i64 x.xQuarrel.xFrom, .int .i64 x.xQuarrel.xCheck, .int .i64 x.xQuarrel.xTo, .int .i64 x.xQuarrel.xTold, .int .i64 x.xQuarrel.xHeard, .int .i64 x.xQuarrel.xOther, .int .i64 x.xQuarrel.xVowed] 41)) 56 #[.int .i64 0, .slice none 0 0, .slice none 0 0, .slice none 0 0, .int .i64 0, .slice none 0 0, .int .i64 0, .int .i64 0, .int .i64 0, .bool false, .bool false, .int .i64 0, .int .i64 0, .int .i64 0, .int .i64 0, .int .i64 0, .int .i64 0, .int .i64 0]
  have sz0 : ((w.alloc (.cells #[.slice p0 x.xTape.length c0, .slice p1 x.xUsed.length c1, .int .i64 x.xSent, .slice p2 x.xHeard.length c2, .int .i64 x.xCheat.xWho, .int .i64 x.xCheat.xAt, .int .i64 x.xCheat.xBy, .bool x.xCheat.xCry, .bool x.xQuarrel.xSome, .int .i64 x.xQuarrel.xFrom, .int .i64 x.xQuarrel.xCheck, .int .i64 x.xQuarrel.xTo, .int .i64 x.xQuarrel.xTold, .int .i64 x.xQuarrel.xHeard, .int .i64 x.xQuarrel.xOther, .int .i64 x.xQuarrel.xVowed] 41)).alloc (.cells #[.int .i64 0, .slice none 0 0, .slice none 0 0, .slice none 0 0, .int .i64 0, .slice none 0 0, .int .i64 0, .int .i64 0, .int .i64 0, .bool false, .bool false, .int .i64 0, .int .i64 0, .int .i64 0, .int .i64 0, .int .i64 0, .int .i64 0, .int .i64 0] 56)).heap.size = w.heap.size + 2 := by simp
  obtain ⟨n, hn⟩ : ∃ n, vs.length = n := ⟨_, rfl⟩
  rw [hn]
  simp only [hn] at KE HLV hlen
  clear hl
  by_cases k0 : ownC x oo = 0
  · rw [k0] at KO
    by_cases k1 : vs.length ≤ 60
    · by_cases k2 : elC 256 vs = 0
      · rw [k2] at KE
        obtain ⟨zn, zo⟩ := ownC_zero k0
        obtain ⟨o, rfl⟩ := Int.eq_ofNat_of_zero_le zo.1
        have hcz : manyC x o vs = 0 := by rw [manyC_el k0 k1]; exact k2
        have HRES : Hid (manyR x o vs = _) := manyR_ok hcz
        have NB := NetB.of zn hx
        have hH0 : 0 < x.xHeard.length := by rw [NB.h4]; omega
        have ho4 : o < 4 := by omega
        have HVB : Hid (∀ j, j < n → 0 ≤ vs.getD j 0 ∧ vs.getD j 0 < 256) := fun j hj => elC_bd k2 j (by omega)
        have HGB : Hid (∀ k, k ≤ n → NetB (2 * k) (gvX x o (vs.take k))) := fun k hk => (gvX_B o (vs.take k) NB).mono (by rw [List.length_take]; omega)
        have HGL : Hid (∀ k, k ≤ n → (gvM x o (vs.take k)).length = k) := fun k hk => by rw [gvM_len, List.length_take]; omega
        have HGS : Hid (∀ k, k < n → gvX x o (vs.take (k + 1)) = gaveN (gvX x o (vs.take k)) o (vs.getD k 0) ∧ gvM x o (vs.take (k + 1)) = gvM x o (vs.take k) ++ [⟨256, mirRows (inParts (gvX x o (vs.take k)) o (vs.getD k 0))⟩]) := fun k hk => by rw [take_snoc vs (by omega)]; exact ⟨gvX_snoc _ _ _ _, gvM_snoc _ _ _ _⟩
        have HTA : Hid (vs.take n = vs) := by show _ = _; rw [← hn]; exact List.take_length
        have hn60 : n ≤ 60 := by omega
        obtain ⟨iM, hiM, hzM0, hzM1, hzM2⟩ := info_parts Tryz.infoMg
        clear k0 k1 k2 hcz zn zo NB
        go_enter Tryz.func23, Tryz.ntmps23
        go_wp2_with (refine wpList_load_blk rfl 41 _ rfl w.heap.size rfl X0 Tryz.underlying41 rfl (by kernel_rfl) ?_)
        refine (KO _ B0).mono ?_
        rintro e w1 ⟨rfl, hb1⟩
        have X1 := X0.keep hb1
        have Y1 := Y0.keep hb1
        have B1 := B0.trans (hb1.mono B0.size)
        have sz1 := hb1.size
        rw [sz0] at sz1
        clear X0 Y0 B0 hb1 KO sz0
        have hgt : decide (60 < (n : Int)) = false := by simp; omega
        go_wp2_with fail
        refine (KE _ B1).mono ?_
        rintro e w' ⟨rfl, rfl⟩
        go_wp2_with (refine wpList_load_blk rfl 41 _ rfl w.heap.size rfl X1 Tryz.underlying41 rfl (by kernel_rfl) ?_)
        refine (KC _ B1).mono ?_
        rintro e w1b ⟨q0, d0, q1, d1, q2, d2, bt, b1, b2, rfl, T1, U1, H1, j01, j02, j12, f0, f1, f2, hb1⟩
        have Y2 := Y1.keep hb1
        have B2 := B1.trans (hb1.mono B1.size)
        have sz2 := Nat.le_trans sz1 hb1.size
        have fw0 := fun y hy => Nat.le_trans sz1 (f0 y hy)
        have fw1 := fun y hy => Nat.le_trans sz1 (f1 y hy)
        have fw2 := fun y hy => Nat.le_trans sz1 (f2 y hy)
        clear X1 Y1 B1 hb1 f0 f1 f2 KC KE sz1
        have Zn := Blk.new w1b 41 #[.slice none 0 0, .slice none 0 0, .int .i64 0, .slice none 0 0, .int .i64 0, .int .i64 0, .int .i64 0, .bool false, .bool false, .int .i64 0, .int .i64 0, .int .i64 0, .int .i64 0, .int .i64 0, .int .i64 0, .int .i64 0]
        go_wp2_with (first | (refine wpList_store_blk rfl 41 _ _ rfl w1b.heap.size #[.slice q0 x.xTape.length d0, .slice q1 x.xUsed.length d1, .int .i64 x.xSent, .slice q2 x.xHeard.length d2, .int .i64 x.xCheat.xWho, .int .i64 x.xCheat.xAt, .int .i64 x.xCheat.xBy, .bool x.xCheat.xCry, .bool x.xQuarrel.xSome, .int .i64 x.xQuarrel.xFrom, .int .i64 x.xQuarrel.xCheck, .int .i64 x.xQuarrel.xTo, .int .i64 x.xQuarrel.xTold, .int .i64 x.xQuarrel.xHeard, .int .i64 x.xQuarrel.xOther, .int .i64 x.xQuarrel.xVowed] rfl rfl Zn rfl (by kernel_rfl) (by kernel_rfl) ?_; intro w2 Z2 O2) | (at_make; refine wpList_make_full _ rfl _ _ 54 rfl w2.heap.size 36 iM (.agg #[.int .i64 0, .slice none 0 0]) 2 Tryz.underlying54 hiM hzM0 hzM1 _ _ _ _ n rfl rfl rfl rfl (by rw [hzM2]; omega) (by unfold maxLen; omega) (Nat.le_refl _) ?_))
        intro w3 hown hgrow
        have O2' : Off [w1b.heap.size] w1b w2 := ((Off.refl _ _).alloc _).trans O2
        have N2 : NetIn w2 w1b.heap.size x (bt ++ (b1 ++ b2)) := NetIn.of Z2 (T1.off O2' (fun y hy hm => by have := T1.lt y hy; simp at hm; omega)) (U1.off O2' (fun y hy hm => by have := U1.lt y hy; simp at hm; omega)) (H1.off O2' (fun y hy hm => by have := H1.lt y hy; simp at hm; omega)) (fun hm => Nat.lt_irrefl _ (T1.lt _ hm)) (fun hm => Nat.lt_irrefl _ (U1.lt _ hm)) (fun hm => Nat.lt_irrefl _ (H1.lt _ hm)) j01 j02 j12 hH0
        have Y3 := Y2.off O2' (by simp; omega)
        have B3 : Below w.heap.size w w2 := B2.trans (O2'.toBelow B2.size (by have := B2.size; simp; omega))
        have hbs : ∀ y ∈ bt ++ (b1 ++ b2), w.heap.size + 2 ≤ y := fun y hy => by rcases List.mem_append.1 hy with h | h; (exact fw0 y h); (rcases List.mem_append.1 h with h | h; (exact fw1 y h); (exact fw2 y h))
        have lZ := Z2.lt
        clear Zn T1 U1 H1 O2 O2' Y2 B2 fw0 fw1 fw2 Z2 j01 j02 j12
        generalize bt ++ (b1 ++ b2) = bs at *
        generalize w1b.heap.size = gN at *
        have hb3 : Below w2.heap.size w2 w3 := (Below.refl _ _).grown hgrow (Nat.le_refl _) (fun k hk => by cases hk)
        have N3 := N2.keep hb3
        have Y4 := Y3.keep hb3
        have B4 := B3.trans (hb3.mono B3.size)
        have lNs := N2.lts
        have hO3 : Own w3 36 2 (.slice (some ⟨w2.heap.size, 0, none⟩) n n) n (zzC n) [w2.heap.size] := by
          obtain ⟨bs3, h1, h2⟩ := Own.of_owns hown
          have hbs3 : bs3 = [w2.heap.size] := by
            rcases h1.2 with ⟨k, _⟩ | ⟨g', cap', cur, rfl, k, _⟩
            · cases k
            · simp at k; rw [← k.1]
          rw [hbs3, madeM_zz n] at h1
          exact h1
        have L3 : GvL w w3 x o vs 0 n w2.heap.size gN [] [] bs := ⟨by simpa [gvM, msC] using hO3, trivial, by simp, N3, fun y hy => by simp at hy; subst hy; exact ⟨by omega, by omega, fun hc => by have := lNs _ hc; omega⟩, fun y hy => by rcases List.mem_cons.1 hy with h | h; omega; (have := hbs y h; omega)⟩
        clear hown hgrow hO3 N3 N2 Y3 B3 hb3 lNs hbs lZ
        generalize w2.heap.size = g at *
        go_wp2
        go_loopw [11, 12, 37] (fun _ _ i wr => ∃ k : Nat, ∃ us : List Value, ∃ bi : List (List Nat), ∃ cs : List Nat, k ≤ n ∧ i = .int .i64 k ∧ GvL w wr x o vs k n g gN us bi cs ∧ Blk wr (w.heap.size + 1) 56 #[.int .i64 0, .slice none 0 0, .slice none 0 0, .slice none 0 0, .int .i64 0, .slice none 0 0, .int .i64 0, .int .i64 0, .int .i64 0, .bool false, .bool false, .int .i64 0, .int .i64 0, .int .i64 0, .int .i64 0, .int .i64 0, .int .i64 0, .int .i64 0] ∧ Below w.heap.size w wr) (fun _ _ i _ => n - (intOf i).toNat)
        case atStart => exact ⟨0, [], [], bs, Nat.zero_le _, rfl, L3, Y4, B4⟩
        case round =>
          clear L3 Y4 B4
          obtain ⟨k, us, bi, cs, hk, rfl, L, Y, B⟩ := hrel
          by_cases hlt : k < n
          · have hk1 : (k : Int) < (n : Int) := by omega
            have hk0 : (0 : Int) ≤ (k : Int) := by omega
            have HKN : Hid (k < n) := hlt
            obtain ⟨hO, hR, hnd, N, hgd, hgN⟩ := L
            obtain ⟨HX1, HM1⟩ := HGS.out k hlt
            have HXS : Hid (gvX x o (vs.take (k + 1)) = gaveN (gvX x o (vs.take k)) o (vs.getD k 0)) := HX1
            have HMS : Hid (gvM x o (vs.take (k + 1)) = gvM x o (vs.take k) ++ [⟨256, mirRows (inParts (gvX x o (vs.take k)) o (vs.getD k 0))⟩]) := HM1
            have hB := HGB.out k hk
            have hxl := HGL.out k hk
            have hul : us.length = (gvM x o (vs.take k)).length := hR.len.1
            have hvb := HVB.out k hlt
            obtain ⟨m, hm⟩ : ∃ m, n - k = m + 1 := ⟨n - k - 1, by omega⟩
            have HM : Hid (n - (k + 1) = m) := (show n - (k + 1) = m by omega)
            rw [hm] at hO
            have HPUT := fun u => msC_put u (⟨256, mirRows (inParts (gvX x o (vs.take k)) o (vs.getD k 0))⟩ : MMirror) m hul
            have HZZ := msC_zz m hul
            rw [hxl] at HPUT HZZ
            have HPT : Hid (∀ u, ((msC us (gvM x o (vs.take k)) ++ zzC (m + 1)).set (k * 2) (.int .i64 256)).set (k * 2 + 1) u = msC (us ++ [u]) (gvM x o (vs.take k) ++ [⟨256, mirRows (inParts (gvX x o (vs.take k)) o (vs.getD k 0))⟩]) ++ zzC m) := HPUT
            have KI := impl_input_net gN _ cs o (vs.getD k 0) (2 * k) wr N hB (by omega) ho4 hvb
            have hcell : ∃ ga oa, pl = some ⟨ga, oa, none⟩ ∧ wr.cell? ⟨ga, oa + k, none⟩ = some (.int .i64 (vs.getD k 0)) := by
              obtain ⟨a, c, e, _, hA⟩ := HLV.out wr B
              simp only [Value.slice.injEq] at e
              obtain ⟨rfl, _, rfl⟩ := e
              obtain ⟨b, off, e, _, hc⟩ := hA (by intro h; rw [h] at hn; simp at hn; omega)
              exact ⟨b, off, e, hc k (by omega)⟩
            obtain ⟨ga, oa, rfl, hcl⟩ := hcell
            have lO := hO.lt g (by simp)
            have lR := hR.lt
            have lNs := N.lts
            have lN := N.lt
            clear HPUT hm hxl hlt hk hB HX1 HM1
            generalize vs.getD k 0 = vk at *
            generalize gvX x o (vs.take k) = xk at *
            generalize gvM x o (vs.take k) = mk at *
            go_wp2_with fail
            refine KI.mono ?_
            rintro e w6 ⟨p6, c6, bm, cs6, rfl, M6, hbm, N6, hcs6, O6⟩
            have hO6 := hO.off O6 (fun y hy hc => by have := hgd y (by simp at hy; simp [hy]); simp at hc; rcases hc with h | h; (exact this.2.1 h); (exact this.2.2 h))
            have hR6 := hR.off O6 (fun y hy hc => by have := hgd y (by simp only [List.mem_cons]; exact .inr hy); simp at hc; rcases hc with h | h; (exact this.2.1 h); (exact this.2.2 h))
            have Y6 := Y.off O6 (fun hc => by have := hgN _ hc; omega)
            have B6 := B.trans (O6.toBelow B.size (fun y hy => by have := hgN y hy; omega))
            have z6 := O6.size
            have lM6 := M6.lt
            have c0 : w6.cell? ⟨g, k * 2, none⟩ = some (.int .i64 0) := (Own.cell hO6 (k * 2) (by have := HKN.out; omega)).trans HZZ.1
            have c1 : w6.cell? ⟨g, k * 2 + 1, none⟩ = some (.slice none 0 0) := (Own.cell hO6 (k * 2 + 1) (by have := HKN.out; omega)).trans HZZ.2
            have f0 := fun j => Own.frozen hO6 j
            have hgY : g ≠ w.heap.size + 1 := by have := hgd g (by simp); omega
            clear hO hR N Y B KI O6 HZZ
            go_wp2
            go_roundw
            case rel =>
              generalize hvv : Value.slice p6 4 c6 = vv at *
              have hO7 := Own.set (Own.set hO6 (k * 2) (.int .i64 256)) (k * 2 + 1) vv
              rw [HPT.out vv] at hO7
              have O7 : Off [g] w6 ((w6.setCell ⟨g, k * 2, none⟩ (.int .i64 256)).setCell ⟨g, k * 2 + 1, none⟩ vv) := ((Off.refl _ _).setCell _ _ (.inl (by simp))).setCell _ _ (.inl (by simp))
              have hg1 := hgd g (by simp)
              have gcs : g ∉ cs6 := fun hc => by rcases hcs6 g hc with h | h; (exact hg1.2.2 h); omega
              have gbm : g ∉ bm := fun hc => by have := (hbm g hc).1; omega
              have gng : gN ≠ g := fun h => hg1.2.1 h.symm
              have gbi := (List.nodup_cons.1 hnd).1
              have ndb : bm.Nodup := by obtain ⟨_, _, _, _, _, _, h⟩ := M6; exact h
              have fe : (bi ++ [bm]).flatten = bi.flatten ++ bm := by simp
              refine ⟨k + 1, us ++ [vv], bi ++ [bm], cs6, HKN.out, by go_num, ⟨by rw [HMS.out, HM.out]; exact hO7, by rw [HMS.out]; exact MsR.snoc (hR6.off O7 (fun y hy hc => by simp at hc; exact gbi (hc ▸ hy))) (M6.off O7 (fun y hy hc => by simp at hc; exact gbm (hc ▸ hy))), ?_, by rw [HXS.out]; exact N6.off O7 (by simpa using gng) (fun y hy hc => by simp at hc; exact gcs (hc ▸ hy)), ?_, ?_⟩, Y6.off O7 (by simp; omega), B6.trans (O7.toBelow B6.size (by have := hg1.1; simp; omega))⟩
              · rw [fe, ← List.cons_append]
                refine nodup_app hnd ndb (fun y hy hc => ?_)
                have := (hbm y hc).1
                rcases List.mem_cons.1 hy with h | h
                · omega
                · have := lR y h; omega
              · intro y hy
                rw [fe, ← List.cons_append] at hy
                rcases List.mem_append.1 hy with h | h
                · have a := hgd y h
                  refine ⟨a.1, a.2.1, fun hc => ?_⟩
                  rcases hcs6 y hc with k | k
                  · exact a.2.2 k
                  · rcases List.mem_cons.1 h with h | h
                    · omega
                    · have := lR y h; omega
                · have a := hbm y h
                  exact ⟨by omega, by omega, a.2⟩
              · intro y hy
                rcases List.mem_cons.1 hy with h | h
                · exact hgN y (by simp [h])
                · rcases hcs6 y h with h | h
                  · exact hgN y (by simp only [List.mem_cons]; exact .inr h)
                  · omega
            case measure => simp [intOf]; omega
          · obtain rfl : k = n := by omega
            obtain ⟨hO, hR, hnd, N, hgd, hgN⟩ := L
            rw [HTA.out] at hO hR N
            rw [Nat.sub_self] at hO
            simp only [zzC, List.append_nil] at hO
            have hml : (gvM x o vs).length = k := by rw [gvM_len]; exact hn
            have HMLN : Hid ((gvM x o vs).length = k) := hml
            have OM : OwMirrorS wr (.slice (some ⟨g, 0, none⟩) (gvM x o vs).length k) (gvM x o vs) (g :: bi.flatten) := ⟨us, [g], bi, by rw [hml]; exact hO, hR, rfl, hnd⟩
            clear hO hR hnd hml HGB HGL HGS HVB HLV hk hlt
            generalize gvM x o vs = ms at *
            generalize gvX x o vs = x2 at *
            have hlN := N.lts
            obtain ⟨q0, q1, gH, d0, d1, d2, bt, b1, b2, Z5, T5, U5, H5, -, -, -, k01, k02, k12, rfl⟩ := N
            go_wp2_with (first | (refine wpList_load_blk rfl 41 _ rfl gN rfl Z5 Tryz.underlying41 rfl (by kernel_rfl) ?_) | (refine wpList_store_blk rfl 56 _ _ rfl (w.heap.size + 1) (#[.int .i64 0, .slice (some ⟨g, 0, none⟩) k k, .slice q0 x2.xTape.length d0, .slice q1 x2.xUsed.length d1, .int .i64 x2.xSent, .slice (some ⟨gH, 0, none⟩) x2.xHeard.length d2, .int .i64 x2.xCheat.xWho, .int .i64 x2.xCheat.xAt, .int .i64 x2.xCheat.xBy, .bool x2.xCheat.xCry, .bool x2.xQuarrel.xSome, .int .i64 x2.xQuarrel.xFrom, .int .i64 x2.xQuarrel.xCheck, .int .i64 x2.xQuarrel.xTo, .int .i64 x2.xQuarrel.xTold, .int .i64 x2.xQuarrel.xHeard, .int .i64 x2.xQuarrel.xOther, .int .i64 x2.xQuarrel.xVowed]) rfl rfl Y rfl (by kernel_rfl) (by kernel_rfl) ?_; intro w9 Y9 O9))
            have nn : ∀ y, w.heap.size + 1 < y → y ∉ [w.heap.size + 1] := fun y h hm => by simp at hm; omega
            exact bodyPost_ret (v := .agg (#[.int .i64 0, .slice (some ⟨g, 0, none⟩) k k, .slice q0 x2.xTape.length d0, .slice q1 x2.xUsed.length d1, .int .i64 x2.xSent, .slice (some ⟨gH, 0, none⟩) x2.xHeard.length d2, .int .i64 x2.xCheat.xWho, .int .i64 x2.xCheat.xAt, .int .i64 x2.xCheat.xBy, .bool x2.xCheat.xCry, .bool x2.xQuarrel.xSome, .int .i64 x2.xQuarrel.xFrom, .int .i64 x2.xQuarrel.xCheck, .int .i64 x2.xQuarrel.xTo, .int .i64 x2.xQuarrel.xTold, .int .i64 x2.xQuarrel.xHeard, .int .i64 x2.xQuarrel.xOther, .int .i64 x2.xQuarrel.xVowed])) (results_blk Tryz.results23 rfl Y9 Tryz.underlying56 rfl (by kernel_rfl)) rfl (by rw [HRES.out]; have := OutMany.of (w := w) (W' := w9) (x := x2) (ms := ms) (pm := some ⟨g, 0, none⟩) (cm := k) 0 (T5.off O9 (fun y hy => nn y (hgN y (by simp [hy])))) (U5.off O9 (fun y hy => nn y (hgN y (by simp [hy])))) (H5.off O9 (fun y hy => nn y (hgN y (by simp [hy])))) k01 k02 k12 (fun y hy => by have := hgN y (by simp only [List.mem_cons]; exact .inr hy); omega) (OM.off O9 (fun y hy => nn y (hgd y hy).1)) (fun y hy => ⟨by have := (hgd y hy).1; omega, (hgd y hy).2.2⟩) (B.trans (O9.toBelow B.size (by simp))); rw [HMLN.out] at this; exact this)
      · rw [manyR_bad (by rw [manyC_el k0 k1]; exact k2), manyC_el k0 k1]
        have hne : (elC 256 vs != 0) = true := by simpa using k2
        have hgt : decide (60 < (n : Int)) = false := by simp; omega
        generalize elC 256 vs = r at *
        clear KC k0 k1 k2
        go_enter Tryz.func23, Tryz.ntmps23
        go_wp2_with (refine wpList_load_blk rfl 41 _ rfl w.heap.size rfl X0 Tryz.underlying41 rfl (by kernel_rfl) ?_)
        refine (KO _ B0).mono ?_
        rintro e w1 ⟨rfl, hb1⟩
        have X1 := X0.keep hb1
        have Y1 := Y0.keep hb1
        have B1 := B0.trans (hb1.mono B0.size)
        have sz1 := hb1.size
        rw [sz0] at sz1
        clear X0 Y0 B0 hb1 KO sz0
        go_wp2_with fail
        refine (KE _ B1).mono ?_
        rintro e w' ⟨rfl, rfl⟩
        clear X1 KE
        go_wp2_with (refine wpList_store_blk rfl 56 _ _ rfl (w.heap.size + 1) (#[.int .i64 r, .slice none 0 0, .slice none 0 0, .slice none 0 0, .int .i64 0, .slice none 0 0, .int .i64 0, .int .i64 0, .int .i64 0, .bool false, .bool false, .int .i64 0, .int .i64 0, .int .i64 0, .int .i64 0, .int .i64 0, .int .i64 0, .int .i64 0]) rfl rfl Y1 rfl (by kernel_rfl) (by kernel_rfl) ?_; intro w9 Y9 O9)
        exact bodyPost_ret (v := .agg (#[.int .i64 r, .slice none 0 0, .slice none 0 0, .slice none 0 0, .int .i64 0, .slice none 0 0, .int .i64 0, .int .i64 0, .int .i64 0, .bool false, .bool false, .int .i64 0, .int .i64 0, .int .i64 0, .int .i64 0, .int .i64 0, .int .i64 0, .int .i64 0])) (results_blk Tryz.results23 rfl Y9 Tryz.underlying56 rfl (by kernel_rfl)) rfl (OutMany.bad _ (B1.trans (O9.toBelow B1.size (by simp))))
    · rw [manyR_bad (by rw [manyC_many k0 k1]; decide), manyC_many k0 k1]
      have hgt : decide (60 < (n : Int)) = true := by simp; omega
      clear KC KE k0 k1
      go_enter Tryz.func23, Tryz.ntmps23
      go_wp2_with (refine wpList_load_blk rfl 41 _ rfl w.heap.size rfl X0 Tryz.underlying41 rfl (by kernel_rfl) ?_)
      refine (KO _ B0).mono ?_
      rintro e w1 ⟨rfl, hb1⟩
      have X1 := X0.keep hb1
      have Y1 := Y0.keep hb1
      have B1 := B0.trans (hb1.mono B0.size)
      have sz1 := hb1.size
      rw [sz0] at sz1
      clear X0 Y0 B0 hb1 KO sz0
      clear X1
      go_wp2_with (refine wpList_store_blk rfl 56 _ _ rfl (w.heap.size + 1) (#[.int .i64 2, .slice none 0 0, .slice none 0 0, .slice none 0 0, .int .i64 0, .slice none 0 0, .int .i64 0, .int .i64 0, .int .i64 0, .bool false, .bool false, .int .i64 0, .int .i64 0, .int .i64 0, .int .i64 0, .int .i64 0, .int .i64 0, .int .i64 0]) rfl rfl Y1 rfl (by kernel_rfl) (by kernel_rfl) ?_; intro w9 Y9 O9)
      exact bodyPost_ret (v := .agg (#[.int .i64 2, .slice none 0 0, .slice none 0 0, .slice none 0 0, .int .i64 0, .slice none 0 0, .int .i64 0, .int .i64 0, .int .i64 0, .bool false, .bool false, .int .i64 0, .int .i64 0, .int .i64 0, .int .i64 0, .int .i64 0, .int .i64 0, .int .i64 0])) (results_blk Tryz.results23 rfl Y9 Tryz.underlying56 rfl (by kernel_rfl)) rfl (OutMany.bad _ (B1.trans (O9.toBelow B1.size (by simp))))
  · rw [manyR_bad (by rw [manyC_own k0]; exact k0), manyC_own k0]
    have hne : (ownC x oo != 0) = true := by simpa using k0
    generalize ownC x oo = r at *
    clear KC KE k0
    go_enter Tryz.func23, Tryz.ntmps23
    go_wp2_with (refine wpList_load_blk rfl 41 _ rfl w.heap.size rfl X0 Tryz.underlying41 rfl (by kernel_rfl) ?_)
    refine (KO _ B0).mono ?_
    rintro e w1 ⟨rfl, hb1⟩
    have X1 := X0.keep hb1
    have Y1 := Y0.keep hb1
    have B1 := B0.trans (hb1.mono B0.size)
    have sz1 := hb1.size
    rw [sz0] at sz1
    clear X0 Y0 B0 hb1 KO sz0
    clear X1
    go_wp2_with (refine wpList_store_blk rfl 56 _ _ rfl (w.heap.size + 1) (#[.int .i64 r, .slice none 0 0, .slice none 0 0, .slice none 0 0, .int .i64 0, .slice none 0 0, .int .i64 0, .int .i64 0, .int .i64 0, .bool false, .bool false, .int .i64 0, .int .i64 0, .int .i64 0, .int .i64 0, .int .i64 0, .int .i64 0, .int .i64 0]) rfl rfl Y1 rfl (by kernel_rfl) (by kernel_rfl) ?_; intro w9 Y9 O9)
    exact bodyPost_ret (v := .agg (#[.int .i64 r, .slice none 0 0, .slice none 0 0, .slice none 0 0, .int .i64 0, .slice none 0 0, .int .i64 0, .int .i64 0, .int .i64 0, .bool false, .bool false, .int .i64 0, .int .i64 0, .int .i64 0, .int .i64 0, .int .i64 0, .int .i64 0, .int .i64 0])) (results_blk Tryz.results23 rfl Y9 Tryz.underlying56 rfl (by kernel_rfl)) rfl (OutMany.bad _ (B1.trans (O9.toBelow B1.size (by simp))))
end Go.Proofs.YtbmemdgeohnpnalGreat
