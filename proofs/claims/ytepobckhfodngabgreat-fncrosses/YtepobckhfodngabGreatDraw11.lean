/-
  Rows of products that are drawn.
-/
import Derived.Test.YtepobckhfodngabGreatDraw10
import Derived.Test.YtepobckhfodngabGreatDuo
namespace Go.Proofs.YtepobckhfodngabGreat
open Go.ChangeShapes Go.WideShapes Go.ChangeAt Go.RowKit
set_option linter.unusedVariables false

set_option maxHeartbeats 16000000 in
set_option maxRecDepth 100000 in
theorem spec_DrawDotMirrors (a : Option Addr) (cap : Nat) (zs : List Int) (w : World) (hr : Reads w .u8 (.slice a zs.length cap) zs) (hl : zs.length ≤ 1048576) (hb : ∀ i, 0 ≤ zs.getD i 0 ∧ zs.getD i 0 ≤ 255) :
    Calls Tryz.prog 6 #[.slice a zs.length cap] w fun e w' => ∃ (u : Value) (x : MNet) (v v' : Value) (xs ys : List MMirror), e = .returned (.tuple #[u, v, v']) ∧ (∀ V cs, Off cs w' V → (∀ z ∈ cs, z < w.heap.size) → RdNet V u x) ∧ Fit x ∧ StS w.heap.size w' v xs ∧ StS w.heap.size w' v' ys ∧ DrawnD xs ys ∧ Below w.heap.size w w' := by
  obtain ⟨iM, hiM, hzM0, hzM1, hzM2⟩ := info_parts Tryz.infoM
  have B0 : Below w.heap.size w (w.alloc (.cells #[.slice none 0 0, .slice none 0 0, .int .i64 0, .slice none 0 0, .int .i64 0, .int .i64 0, .int .i64 0, .bool false, .bool false, .int .i64 0, .int .i64 0, .int .i64 0, .int .i64 0, .int .i64 0, .int .i64 0, .int .i64 0] 33)) := (by repeat (first | exact Below.refl _ _ | refine Below.drew ?_ | refine below_drewN ?_ _ | refine Below.setCell ?_ (by first | omega | (simp; done) | (simp; omega)) _ | refine Below.alloc ?_ (by first | omega | (simp; done) | (simp; omega)) _))
  have Y0 := Blk.new w 33 #[.slice none 0 0, .slice none 0 0, .int .i64 0, .slice none 0 0, .int .i64 0, .int .i64 0, .int .i64 0, .bool false, .bool false, .int .i64 0, .int .i64 0, .int .i64 0, .int .i64 0, .int .i64 0, .int .i64 0, .int .i64 0]
  go_enter Tryz.func6, Tryz.ntmps6
  go_wp2_with fail
  refine (spec_l1Source a cap zs _ (hr.below B0) hl hb).mono ?_
  rintro e w1 ⟨rfl, s1, hb1⟩
  have hz : (w.alloc (.cells #[.slice none 0 0, .slice none 0 0, .int .i64 0, .slice none 0 0, .int .i64 0, .int .i64 0, .int .i64 0, .bool false, .bool false, .int .i64 0, .int .i64 0, .int .i64 0, .int .i64 0, .int .i64 0, .int .i64 0, .int .i64 0] 33)).heap.size = w.heap.size + 1 := by simp
  rw [hz] at s1 ⊢
  replace Y0 := Y0.keep hb1
  replace B0 : Below w.heap.size w w1 := B0.trans (hb1.mono B0.size)
  have l1 := s1.blk.lt
  clear hb1 hz hr
  go_wp2_with fail
  refine (spec_l5Net _ a cap zs 0 _ s1 (by omega)).mono ?_
  rintro e w2 ⟨u, rfl, x, hR, hF, ⟨j, hj, s2⟩, o2⟩
  obtain ⟨p0, c0, p1, c1, p2, c2, rfl, -⟩ := hR w2 [] (Off.refl _ _) (by simp)
  have HR : Hid (∀ V cs, Off cs w2 V → (∀ z ∈ cs, z ≤ w.heap.size + 1 ∨ w2.heap.size ≤ z) → RdNet V (.agg (#[.slice p0 x.xTape.length c0, .slice p1 x.xUsed.length c1, .int .i64 x.xSent, .slice p2 x.xHeard.length c2, .int .i64 x.xCheat.xWho, .int .i64 x.xCheat.xAt, .int .i64 x.xCheat.xBy, .bool x.xCheat.xCry, .bool x.xQuarrel.xSome, .int .i64 x.xQuarrel.xFrom, .int .i64 x.xQuarrel.xCheck, .int .i64 x.xQuarrel.xTo, .int .i64 x.xQuarrel.xTold, .int .i64 x.xQuarrel.xHeard, .int .i64 x.xQuarrel.xOther, .int .i64 x.xQuarrel.xVowed])) x) := fun W cs o h => hR W (cs.filter (fun z => z < w1.heap.size)) ⟨o.os, o.tape, o.output, o.size, fun i hi hn => o.block i hi (fun hm => by
      rcases h i hm with h' | h'
      · exact hn (List.mem_filter.2 ⟨hm, by simp; omega⟩)
      · omega)⟩ (fun z hz => by have := (List.mem_filter.1 hz).2; simpa using this)
  have HF : Hid (Fit x) := hF
  have Y2 := Y0.off o2 (by simp)
  have z2 := o2.size
  have B2 : Below w.heap.size w w2 := B0.trans (o2.toBelow B0.size (by simp))
  clear hR hF Y0 B0 o2 s1
  have Zn := Blk.new w2 33 #[.slice none 0 0, .slice none 0 0, .int .i64 0, .slice none 0 0, .int .i64 0, .int .i64 0, .int .i64 0, .bool false, .bool false, .int .i64 0, .int .i64 0, .int .i64 0, .int .i64 0, .int .i64 0, .int .i64 0, .int .i64 0]
  go_wp2_with (refine wpList_store_blk rfl 33 _ _ rfl w2.heap.size (#[.slice p0 x.xTape.length c0, .slice p1 x.xUsed.length c1, .int .i64 x.xSent, .slice p2 x.xHeard.length c2, .int .i64 x.xCheat.xWho, .int .i64 x.xCheat.xAt, .int .i64 x.xCheat.xBy, .bool x.xCheat.xCry, .bool x.xQuarrel.xSome, .int .i64 x.xQuarrel.xFrom, .int .i64 x.xQuarrel.xCheck, .int .i64 x.xQuarrel.xTo, .int .i64 x.xQuarrel.xTold, .int .i64 x.xQuarrel.xHeard, .int .i64 x.xQuarrel.xOther, .int .i64 x.xQuarrel.xVowed]) rfl rfl Zn rfl (by kernel_rfl) (by kernel_rfl) ?_; intro w3 Z3 O3)
  have P3 : Off [w2.heap.size] w2 w3 := ((Off.refl _ _).alloc _).trans O3
  have Y3 := Y2.off P3 (by simp; omega)
  have B3 : Below w.heap.size w w3 := B2.trans (P3.toBelow B2.size (by simp; omega))
  have s3 := s2.off P3 (fun y hy => by simp at hy; omega)
  have z3 := P3.size
  have lz3 := Z3.lt
  clear Y2 B2 s2 O3 Zn
  generalize hg : w2.heap.size = g at *
  go_wp2_with fail
  refine (spec_l1Chance _ a cap zs (0 + j) 8 _ s3 (by omega) (by omega)).mono ?_
  rintro e w4 ⟨r, rfl, s4, o4⟩
  have Y4 := Y3.off o4 (by simp)
  have Z4 := Z3.off o4 (by simp; omega)
  have z4 := o4.size
  have B4 := B3.trans (o4.toBelow B3.size (by simp))
  have HR4 : Hid (∀ V cs, Off cs w4 V → (∀ z ∈ cs, z ≤ w.heap.size + 1 ∨ w4.heap.size ≤ z) → RdNet V (.agg (#[.slice p0 x.xTape.length c0, .slice p1 x.xUsed.length c1, .int .i64 x.xSent, .slice p2 x.xHeard.length c2, .int .i64 x.xCheat.xWho, .int .i64 x.xCheat.xAt, .int .i64 x.xCheat.xBy, .bool x.xCheat.xCry, .bool x.xQuarrel.xSome, .int .i64 x.xQuarrel.xFrom, .int .i64 x.xQuarrel.xCheck, .int .i64 x.xQuarrel.xTo, .int .i64 x.xQuarrel.xTold, .int .i64 x.xQuarrel.xHeard, .int .i64 x.xQuarrel.xOther, .int .i64 x.xQuarrel.xVowed])) x) := fun V cs o h => HR.out V ([g] ++ ([w.heap.size + 1] ++ cs)) ((P3.mono (fun y hy => List.mem_append_left _ hy)).trans (((o4.mono (fun y hy => List.mem_append_left _ hy)).trans (o.mono (fun y hy => List.mem_append_right _ hy))).mono (fun y hy => List.mem_append_right _ hy))) (fun z hz => by
    rcases List.mem_append.1 hz with k | k
    · simp at k; omega
    · rcases List.mem_append.1 k with k | k
      · simp at k; omega
      · rcases h z k with h' | h' <;> omega)
  have gb : w.heap.size + 1 < g := by omega
  clear Y3 Z3 B3 s3 o4 P3 HR
  cases r
  · as_aux_lemma =>
      have HK4 : Hid (0 + j + 1 ≤ 60) := by show _ ≤ _; omega
      generalize 0 + j + 1 = K4 at *
      have hK4 : K4 ≤ 60 := HK4.out
      clear hg z3 z2 lz3
      have lz4 := Z4.lt
      go_wp2_with fail
      refine (spec_l3Q _ a cap zs K4 _ s4 (by omega)).mono ?_
      rintro e w5 ⟨q, rfl, hq, s5, o5⟩
      have hq2 : q ≤ 256 := by rcases hq with h | h <;> omega
      have HQ : Hid (isQ q) := hq
      have P5 : Off [w.heap.size + 1] w4 w5 := o5
      have z5 := o5.size
      clear hq s4 o5
      have lb5 := s5.blk.lt
      have D0 : Duo w5.heap.size ((w5.alloc (.cells #[] 38)).alloc (.cells #[] 38)) (.slice (some ⟨w5.heap.size, 0, none⟩) 0 0) (.slice (some ⟨w5.heap.size + 1, 0, none⟩) 0 0) w5.heap.size (w5.heap.size + 1) [] [] [] [] [] [] := ⟨Own.alloc (Own.made w5 38 2 #[] 0 (by omega) rfl) _, by simpa [msC] using Own.made (w5.alloc (.cells #[] 38)) 38 2 #[] 0 (by omega) rfl, trivial, trivial, by omega, (fun z hz => by simp at hz), by omega⟩
      have s6 := (s5.alloc (.cells #[] 38)).alloc (.cells #[] 38)
      have P6 : Off [w.heap.size + 1] w4 ((w5.alloc (.cells #[] 38)).alloc (.cells #[] 38)) := (P5.alloc _).alloc _
      clear P5
      go_wp2_with fail
      refine (spec_l1Next _ a cap zs _ 3 _ s6 (by omega) (by omega)).mono ?_
      rintro e w7 ⟨r7, rfl, hr7, s7, o7⟩
      obtain ⟨h70, h71⟩ := hr7.1 (by omega)
      have P7 := P6.trans o7
      have D7 := D0.off o7 (fun z hz => by simp at hz; omega)
      obtain ⟨K, hK⟩ : ∃ K : Nat, (K : Int) = 1 + r7 := ⟨(1 + r7).toNat, by omega⟩
      have hK3 : 1 ≤ K ∧ K ≤ 3 := by omega
      have hrw : r7 = (K : Int) - 1 := by omega
      have hz7 := P7.size
      generalize hL0 : w5.heap.size = n0 at *
      clear D0 s5 s6 P6 o7 hr7
      subst hrw
      clear h70 h71 hK
      go_wp2
      go_loopw [8, 9, 10] (fun v v' i wr => ∃ m : Nat, ∃ gx gy : Nat, ∃ xs ys : List MMirror, ∃ us us' : List Value, ∃ bi bi' : List (List Nat), i = .int .i64 m ∧ xs.length + m = K ∧ ys.length = xs.length ∧ Duo n0 wr v v' gx gy xs ys us us' bi bi' ∧ OkMs xs ∧ OkMs ys ∧ Src wr (w.heap.size + 1) a cap zs (K4 + 1 + 1 + 8 * xs.length) ∧ Off [w.heap.size + 1] w4 wr) (fun _ _ i _ => (intOf i).toNat)
      case atStart => exact ⟨K, _, _, [], [], [], [], [], [], (by go_num), by simp, rfl, D7, (fun j hj => by simp at hj), (fun j hj => by simp at hj), s7, P7⟩
      case round =>
        clear D7 s7 P7
        obtain ⟨m, gx, gy, xs, ys, us, us', bi, bi', rfl, hm, hly, D, okx, oky, s8, P8⟩ := hrel
        have HOX : Hid (OkMs xs) := okx
        have HOY : Hid (OkMs ys) := oky
        have HM : Hid (xs.length + m = K ∧ ys.length = xs.length) := ⟨hm, hly⟩
        have lD := D.lts
        have fD := D.fx
        have zr := P8.size
        clear okx oky
        by_cases h0 : 0 < m
        · as_aux_lemma =>
            have hi : (0 : Int) < (m : Int) := by omega
            obtain ⟨pv, cv, rfl⟩ := Own.value D.ox
            obtain ⟨pw, cw, rfl⟩ := Own.value D.oy
            obtain ⟨n, hn⟩ : ∃ n, xs.length = n := ⟨_, rfl⟩
            have HN : Hid (xs.length = n ∧ ys.length = n) := ⟨hn, by omega⟩
            clear hly
            rw [HN.out.1] at s8 ⊢
            rw [HN.out.2]
            rw [hn] at hm
            have hn3 : n ≤ 3 := by omega
            clear hn
            go_wp2_with fail
            refine (spec_l3DrawB _ a cap zs _ q _ s8 (by omega) hq2).mono ?_
            rintro e w9 ⟨p9, c9, ps9, bm9, rfl, M9, l49, E9, f9, s9, o9⟩
            have D9 := D.off o9 (fun z hz => by simp at hz; omega)
            have P9 := P8.trans o9
            have z9 := o9.size
            have HX9 : Hid (mirC q (mirRows ps9) = 0) := drawn_ok HQ.out l49 E9
            have lm9 : (mirRows ps9).length = 4 := by simp [mirRows]
            have hox := D9.ox
            rw [HN.out.1] at hox
            clear D s8 P8 o9 l49 E9
            go_wp2_with (at_builtin; refine wpList_append_Own rfl _ _ 34 rfl 38 iM (.agg #[.int .i64 0, .slice none 0 0]) 2 32 Tryz.underlying34 hiM hzM0 hzM1 hzM2 rfl (by decide) _ _ _ [gx] rfl (Own.alloc hox _) ⟨w9.heap.size, 0, none⟩ 1 1 [.int .i64 q, .slice p9 4 c9] rfl rfl ?c1 ?c2 ?c3 ?c4 ?c5 ?_)
            case c1 => exact World.news_of_block (Blk.new _ _ _)
            case c2 => intro u hu; simp only [List.mem_cons, List.not_mem_nil, or_false] at hu; rcases hu with h | h <;> (rw [h]; rfl)
            case c3 => omega
            case c4 => unfold maxLen; omega
            case c5 => omega
            intro g3 c3 w10 hO3 hoff hg3
            have D10 := Duo.pushX (L := wr.heap.size) (D9.off ((Off.refl [] _).alloc (.cells #[.int .i64 q, .slice p9 4 c9] 38)) (fun z hz => by cases hz)) ⟨q, mirRows ps9⟩ (M9.alloc _) lD (fun z hz => f9 z hz) (by omega) (by rw [HN.out.1]; exact hO3) hoff (by simpa using hg3)
            have s10 := (s9.alloc (.cells #[.int .i64 q, .slice p9 4 c9] 38)).off hoff (fun y hy => by simp at hy; omega)
            have P10 := (P9.alloc (.cells #[.int .i64 q, .slice p9 4 c9] 38)).fresh hoff (fun y hy => by simp at hy; omega)
            have lD10 := D10.lts
            have fD10 := D10.fx
            have zr10 := P10.size
            clear hO3 hoff hg3 D9 s9 P9 hox M9 f9 lD fD
            go_wp2_with fail
            refine (spec_l3DrawB _ a cap zs _ q _ s10 (by omega) hq2).mono ?_
            rintro e w11 ⟨p11, c11, ps11, bm11, rfl, M11, l411, E11, f11, s11, o11⟩
            have D11 := (D10.off o11 (fun z hz => by simp at hz; omega)).swap
            have P11 := P10.trans o11
            have z11 := o11.size
            have HX11 : Hid (mirC q (mirRows ps11) = 0) := drawn_ok HQ.out l411 E11
            have hoy := D11.ox
            rw [HN.out.2] at hoy
            clear D10 s10 P10 o11 l411 E11
            go_wp2_with (at_builtin; refine wpList_append_Own rfl _ _ 34 rfl 38 iM (.agg #[.int .i64 0, .slice none 0 0]) 2 32 Tryz.underlying34 hiM hzM0 hzM1 hzM2 rfl (by decide) _ _ _ [gy] rfl (Own.alloc hoy _) ⟨w11.heap.size, 0, none⟩ 1 1 [.int .i64 q, .slice p11 4 c11] rfl rfl ?d1 ?d2 ?d3 ?d4 ?d5 ?_)
            case d1 => exact World.news_of_block (Blk.new _ _ _)
            case d2 => intro u hu; simp only [List.mem_cons, List.not_mem_nil, or_false] at hu; rcases hu with h | h <;> (rw [h]; rfl)
            case d3 => omega
            case d4 => unfold maxLen; omega
            case d5 => omega
            intro g4 c4 w12 hO4 hoff4 hg4
            have D12 := (Duo.pushX (L := w10.heap.size) (D11.off ((Off.refl [] _).alloc (.cells #[.int .i64 q, .slice p11 4 c11] 38)) (fun z hz => by cases hz)) ⟨q, mirRows ps11⟩ (M11.alloc _) ⟨lD10.2.1, lD10.1, fun z hz => lD10.2.2 z hz.symm⟩ (fun z hz => f11 z hz) (by omega) (by rw [HN.out.2]; exact hO4) hoff4 (by simpa using hg4)).swap
            have s12 := (s11.alloc (.cells #[.int .i64 q, .slice p11 4 c11] 38)).off hoff4 (fun y hy => by simp at hy; omega)
            have P12 := (P11.alloc (.cells #[.int .i64 q, .slice p11 4 c11] 38)).fresh hoff4 (fun y hy => by simp at hy; omega)
            clear hO4 hoff4 hg4 D11 s11 P11 hoy M11 f11 lD10
            go_wp2
            go_roundw
            case rel => exact ⟨m - 1, _, _, _, _, _, _, _, _, (by rw [Int.natCast_sub (by omega)]; go_num), (by rw [List.length_append, HN.out.1]; simp; omega), (by rw [List.length_append, List.length_append, HN.out.1, HN.out.2]; rfl), D12, HOX.out.snoc HX9.out, HOY.out.snoc HX11.out, (by rw [List.length_append, HN.out.1]; have hh := s12; rw [show K4 + 1 + 1 + 8 * n + 4 + 4 = K4 + 1 + 1 + 8 * (n + 1) by omega] at hh; exact hh), P12⟩
            case measure => simp [intOf]; omega
        · as_aux_lemma =>
            obtain rfl : m = 0 := by omega
            have HXN : Hid (xs.length = K ∧ ys.length = K) := ⟨by omega, by omega⟩
            have hkk : K4 + 1 + 1 + 8 * xs.length ≤ 1000 := by omega
            clear hm hly HM lD fD
            go_wp2_with fail
            refine (spec_l1Next _ a cap zs _ 12 _ s8 (by omega) (by omega)).mono ?_
            rintro e w9 ⟨r9, rfl, hr9, s9, o9⟩
            have D9 := D.off o9 (fun z hz => by simp at hz; omega)
            have P9 := P8.trans o9
            have z9 := P9.size
            clear hr9 s8 P8 D o9 zr
            have lD := D9.lts
            have fD := D9.fx
            obtain ⟨cx, rfl, hx1, hx2⟩ := D9.shx (by have := HXN.out; omega)
            obtain ⟨cy, rfl, hy1, hy2⟩ := D9.swap.shx (by have := HXN.out; omega)
            rw [HXN.out.1] at hx1
            rw [HXN.out.2] at hy1
            rw [HXN.out.1, HXN.out.2] at D9 ⊢
            have FIN : Hid (∀ (W V : World) (v v' : Value) (ws ws' : List MMirror), Off [w.heap.size + 1] w4 W → Off [w.heap.size] W V → StS n0 W v ws → StS n0 W v' ws' → DrawnD ws ws' → (∀ V' cs, Off cs V V' → (∀ z ∈ cs, z < w.heap.size) → RdNet V' (.agg (#[.slice p0 x.xTape.length c0, .slice p1 x.xUsed.length c1, .int .i64 x.xSent, .slice p2 x.xHeard.length c2, .int .i64 x.xCheat.xWho, .int .i64 x.xCheat.xAt, .int .i64 x.xCheat.xBy, .bool x.xCheat.xCry, .bool x.xQuarrel.xSome, .int .i64 x.xQuarrel.xFrom, .int .i64 x.xQuarrel.xCheck, .int .i64 x.xQuarrel.xTo, .int .i64 x.xQuarrel.xTold, .int .i64 x.xQuarrel.xHeard, .int .i64 x.xQuarrel.xOther, .int .i64 x.xQuarrel.xVowed])) x) ∧ Fit x ∧ StS w.heap.size V v ws ∧ StS w.heap.size V v' ws' ∧ DrawnD ws ws' ∧ Below w.heap.size w V) := fun W V v v' ws ws' o1 o2 h1 h2 h3 => ⟨fun V' cs o3 hc => HR4.out V' ([w.heap.size + 1] ++ ([w.heap.size] ++ cs)) ((o1.mono (fun y hy => List.mem_append_left _ hy)).trans (((o2.mono (fun y hy => List.mem_append_left _ hy)).trans (o3.mono (fun y hy => List.mem_append_right _ hy))).mono (fun y hy => List.mem_append_right _ hy))) (fun z hz => by
              rcases List.mem_append.1 hz with k | k
              · simp at k; omega
              · rcases List.mem_append.1 k with k | k
                · simp at k; omega
                · have := hc z k; omega), HF.out, h1.more o2 (by simp; omega) (by omega), h2.more o2 (by simp; omega) (by omega), h3, B4.trans ((o1.toBelow B4.size (fun z hz => by simp at hz; omega)).trans (o2.toBelow (Nat.le_trans B4.size o1.size) (fun z hz => by simp at hz; omega)))⟩
            have lYZ : Hid (w.heap.size < w4.heap.size) := by show _ < _; omega
            by_cases h0' : r9 = 0
            · as_aux_lemma =>
                have e0 : (r9 == 0) = true := by simpa using h0'
                clear h0'
                go_wp2_with fail
                refine (spec_l3Bent _ a cap zs _ q _ s9 (by omega) hq2).mono ?_
                rintro e w10 ⟨u10, rfl, x10, hR10, -, ⟨j10, hj10, s10⟩, o10⟩
                obtain ⟨p10, c10, rfl, -⟩ := hR10 w10 [] (Off.refl _ _) (by simp)
                have D10 := D9.off o10 (fun z hz => by simp at hz; omega)
                have P10 := P9.trans o10
                have z10 := o10.size
                have PT := D10.put0 (L := w9.heap.size) HXN.out.1 (by omega) (by omega) (by rw [HXN.out.2]; omega) x10 p10 c10 lD.1 (by omega) hR10
                have k0 : ∃ u, w10.cell? ⟨gx, 0, none⟩ = some u := ⟨_, (Own.cell (by have := D10.ox; rw [HXN.out.1] at this; exact this) 0 (by omega)).trans (List.getElem?_eq_getElem (by rw [msC_len D10.rx.len.1, HXN.out.1]; omega))⟩
                have k1 : ∃ u, w10.cell? ⟨gx, 1, none⟩ = some u := ⟨_, (Own.cell (by have := D10.ox; rw [HXN.out.1] at this; exact this) 1 (by omega)).trans (List.getElem?_eq_getElem (by rw [msC_len D10.rx.len.1, HXN.out.1]; omega))⟩
                obtain ⟨k0u, k0⟩ := k0
                obtain ⟨k1u, k1⟩ := k1
                have fz0 : w10.frozen? ⟨gx, 0, none⟩ = false := Own.frozen (by have := D10.ox; rw [HXN.out.1] at this; exact this) 0
                have fz1 : w10.frozen? ⟨gx, 1, none⟩ = false := Own.frozen (by have := D10.ox; rw [HXN.out.1] at this; exact this) 1
                have O11 : Off [gx] w10 ((w10.setCell ⟨gx, 0, none⟩ (.int .i64 x10.xQ)).setCell ⟨gx, 1, none⟩ (.slice p10 x10.xViews.length c10)) := ((Off.refl _ _).setCell _ _ (by simp)).setCell _ _ (by simp)
                have P11 := P10.fresh O11 (fun y hy => by simp at hy; have := lYZ.out; omega)
                have DD : DrawnD (xs.set 0 x10) ys := ⟨by rw [List.length_set, HXN.out.1]; omega, by rw [List.length_set, HXN.out.1]; omega, by rw [HXN.out.2]; omega, fun j hj0 hj => by
                  rw [List.length_set] at hj
                  rw [List.getD_eq_getElem?_getD, List.getElem?_set_ne (by omega), ← List.getD_eq_getElem?_getD]
                  exact HOX.out j hj, HOY.out⟩
                have HDD : Hid (DrawnD (xs.set 0 x10) ys) := DD
                have HPT : Hid _ := PT
                have ZF := Z4.off P11 (by simp; omega)
                have YF := Y4.off P11 (by simp)
                have hc0 : (0 : Int) < (K : Int) := by omega
                clear D10 D9 hR10 PT DD O11 s9 s10 o10 P10 hx1 hx2 hy1 hy2
                go_wp2_with (first | (refine wpList_load_blk rfl 33 _ rfl g rfl ZF Tryz.underlying33 rfl (by kernel_rfl) ?_) | (refine wpList_store_blk rfl 33 _ _ rfl w.heap.size (#[.slice p0 x.xTape.length c0, .slice p1 x.xUsed.length c1, .int .i64 x.xSent, .slice p2 x.xHeard.length c2, .int .i64 x.xCheat.xWho, .int .i64 x.xCheat.xAt, .int .i64 x.xCheat.xBy, .bool x.xCheat.xCry, .bool x.xQuarrel.xSome, .int .i64 x.xQuarrel.xFrom, .int .i64 x.xQuarrel.xCheck, .int .i64 x.xQuarrel.xTo, .int .i64 x.xQuarrel.xTold, .int .i64 x.xQuarrel.xHeard, .int .i64 x.xQuarrel.xOther, .int .i64 x.xQuarrel.xVowed]) rfl rfl YF rfl (by kernel_rfl) (by kernel_rfl) ?_; intro w20 Y20 O20))
                exact bodyPost_ret (v := .tuple #[.agg (#[.slice p0 x.xTape.length c0, .slice p1 x.xUsed.length c1, .int .i64 x.xSent, .slice p2 x.xHeard.length c2, .int .i64 x.xCheat.xWho, .int .i64 x.xCheat.xAt, .int .i64 x.xCheat.xBy, .bool x.xCheat.xCry, .bool x.xQuarrel.xSome, .int .i64 x.xQuarrel.xFrom, .int .i64 x.xQuarrel.xCheck, .int .i64 x.xQuarrel.xTo, .int .i64 x.xQuarrel.xTold, .int .i64 x.xQuarrel.xHeard, .int .i64 x.xQuarrel.xOther, .int .i64 x.xQuarrel.xVowed]), .slice (some ⟨gx, 0, none⟩) K cx, .slice (some ⟨gy, 0, none⟩) K cy]) (by simp [results, Tryz.results6, go_sem, Y20.at.1]) rfl ⟨_, x, _, _, (xs.set 0 x10), ys, rfl, FIN.out _ _ _ _ _ _ P11 O20 HPT.out.1 HPT.out.2 HDD.out⟩
            · have e0 : (r9 == 0) = false := by simpa using h0'
              by_cases h1' : r9 = 1
              · have e1 : (r9 == 1) = true := by simpa using h1'
                have DD : Hid (DrawnD xs (ys.drop 1)) := ⟨by rw [HXN.out.1]; omega, by rw [HXN.out.1]; omega, by rw [List.length_drop, HXN.out.2]; omega, fun j _ hj => HOX.out j hj, fun j hj => by
                  rw [List.length_drop] at hj
                  have e : (ys.drop 1).getD j zM = ys.getD (j + 1) zM := by simp [List.getD_eq_getElem?_getD]
                  rw [e]
                  exact HOY.out (j + 1) (by omega)⟩
                have S1 : Hid (StS n0 w9 (.slice (some ⟨gx, 0, none⟩) K cx) xs) := D9.stx (by rw [HXN.out.1]; omega)
                have ZF := Z4.off P9 (by simp; omega)
                have YF := Y4.off P9 (by simp)
                have hc1 : (1 : Int) ≤ (K : Int) := by omega
                have hc2 : (1 : Int) ≤ (cy : Int) := by omega
                by_cases hcy : cy = 1
                · as_aux_lemma =>
                    subst hcy
                    obtain rfl : K = 1 := by omega
                    have hdr : ys.drop 1 = [] := by
                      have := HXN.out.2
                      match ys, this with
                      | [y], _ => rfl
                    have S2 : Hid (StS n0 w9 (.slice (some ⟨gy, 0, none⟩) 0 0) (ys.drop 1)) := fun V cs o hc => by rw [hdr]; exact ⟨_, _, rfl, Nat.zero_le _, fun h => absurd rfl h⟩
                    clear h0' h1' D9 s9 hdr
                    go_wp2_with (first | (refine wpList_load_blk rfl 33 _ rfl g rfl ZF Tryz.underlying33 rfl (by kernel_rfl) ?_) | (refine wpList_store_blk rfl 33 _ _ rfl w.heap.size (#[.slice p0 x.xTape.length c0, .slice p1 x.xUsed.length c1, .int .i64 x.xSent, .slice p2 x.xHeard.length c2, .int .i64 x.xCheat.xWho, .int .i64 x.xCheat.xAt, .int .i64 x.xCheat.xBy, .bool x.xCheat.xCry, .bool x.xQuarrel.xSome, .int .i64 x.xQuarrel.xFrom, .int .i64 x.xQuarrel.xCheck, .int .i64 x.xQuarrel.xTo, .int .i64 x.xQuarrel.xTold, .int .i64 x.xQuarrel.xHeard, .int .i64 x.xQuarrel.xOther, .int .i64 x.xQuarrel.xVowed]) rfl rfl YF rfl (by kernel_rfl) (by kernel_rfl) ?_; intro w20 Y20 O20))
                    exact bodyPost_ret (v := .tuple #[.agg (#[.slice p0 x.xTape.length c0, .slice p1 x.xUsed.length c1, .int .i64 x.xSent, .slice p2 x.xHeard.length c2, .int .i64 x.xCheat.xWho, .int .i64 x.xCheat.xAt, .int .i64 x.xCheat.xBy, .bool x.xCheat.xCry, .bool x.xQuarrel.xSome, .int .i64 x.xQuarrel.xFrom, .int .i64 x.xQuarrel.xCheck, .int .i64 x.xQuarrel.xTo, .int .i64 x.xQuarrel.xTold, .int .i64 x.xQuarrel.xHeard, .int .i64 x.xQuarrel.xOther, .int .i64 x.xQuarrel.xVowed]), .slice (some ⟨gx, 0, none⟩) 1 cx, .slice (some ⟨gy, 0, none⟩) 0 0]) (by simp [results, Tryz.results6, go_sem, Y20.at.1]) rfl ⟨_, x, _, _, xs, (ys.drop 1), rfl, FIN.out _ _ _ _ _ _ P9 O20 S1.out S2.out DD.out⟩
                · as_aux_lemma =>
                    have S2 : Hid (StS n0 w9 (.slice (some ⟨gy, 2, none⟩) (K - 1) (cy - 1)) (ys.drop 1)) := D9.sty1 HXN.out.2 (by omega) (by omega)
                    clear h0' h1' D9 s9
                    go_wp2_with (first | (refine wpList_load_blk rfl 33 _ rfl g rfl ZF Tryz.underlying33 rfl (by kernel_rfl) ?_) | (refine wpList_store_blk rfl 33 _ _ rfl w.heap.size (#[.slice p0 x.xTape.length c0, .slice p1 x.xUsed.length c1, .int .i64 x.xSent, .slice p2 x.xHeard.length c2, .int .i64 x.xCheat.xWho, .int .i64 x.xCheat.xAt, .int .i64 x.xCheat.xBy, .bool x.xCheat.xCry, .bool x.xQuarrel.xSome, .int .i64 x.xQuarrel.xFrom, .int .i64 x.xQuarrel.xCheck, .int .i64 x.xQuarrel.xTo, .int .i64 x.xQuarrel.xTold, .int .i64 x.xQuarrel.xHeard, .int .i64 x.xQuarrel.xOther, .int .i64 x.xQuarrel.xVowed]) rfl rfl YF rfl (by kernel_rfl) (by kernel_rfl) ?_; intro w20 Y20 O20))
                    exact bodyPost_ret (v := .tuple #[.agg (#[.slice p0 x.xTape.length c0, .slice p1 x.xUsed.length c1, .int .i64 x.xSent, .slice p2 x.xHeard.length c2, .int .i64 x.xCheat.xWho, .int .i64 x.xCheat.xAt, .int .i64 x.xCheat.xBy, .bool x.xCheat.xCry, .bool x.xQuarrel.xSome, .int .i64 x.xQuarrel.xFrom, .int .i64 x.xQuarrel.xCheck, .int .i64 x.xQuarrel.xTo, .int .i64 x.xQuarrel.xTold, .int .i64 x.xQuarrel.xHeard, .int .i64 x.xQuarrel.xOther, .int .i64 x.xQuarrel.xVowed]), .slice (some ⟨gx, 0, none⟩) K cx, .slice (some ⟨gy, 2, none⟩) (K - 1) (cy - 1)]) (by simp [results, Tryz.results6, go_sem, Y20.at.1]) rfl ⟨_, x, _, _, xs, (ys.drop 1), rfl, FIN.out _ _ _ _ _ _ P9 O20 S1.out S2.out DD.out⟩
              · have e1 : (r9 == 1) = false := by simpa using h1'
                by_cases h2' : r9 = 2
                · as_aux_lemma =>
                    have e2 : (r9 == 2) = true := by simpa using h2'
                    clear h0' h1' h2'
                    go_wp2_with fail
                    refine (spec_l3DrawB _ a cap zs _ 2 _ s9 (by omega) (by omega)).mono ?_
                    rintro e w10 ⟨p10, c10, ps10, bm10, rfl, M10, l410, E10, f10, s10, o10⟩
                    have D10 := (D9.off o10 (fun z hz => by simp at hz; omega)).swap
                    have P10 := P9.trans o10
                    have z10 := o10.size
                    have lm10 : (mirRows ps10).length = 4 := by simp [mirRows]
                    have HX10 : Hid (mirC 2 (mirRows ps10) = 0) := drawn_ok (.inl rfl) l410 E10
                    have PT := D10.put0 (L := w9.heap.size) HXN.out.2 (by omega) (by omega) (by rw [HXN.out.1]; omega) ⟨2, mirRows ps10⟩ p10 c10 lD.2.1 (by omega) (fun V cs o hc => ⟨p10, c10, rfl, (by rw [lm10]; exact (M10.off o (fun y hy hm => by have := f10 y hy; have := hc y hm; omega)).reads)⟩)
                    have k0 : ∃ u, w10.cell? ⟨gy, 0, none⟩ = some u := ⟨_, (Own.cell (by have := D10.ox; rw [HXN.out.2] at this; exact this) 0 (by omega)).trans (List.getElem?_eq_getElem (by rw [msC_len D10.rx.len.1, HXN.out.2]; omega))⟩
                    have k1 : ∃ u, w10.cell? ⟨gy, 1, none⟩ = some u := ⟨_, (Own.cell (by have := D10.ox; rw [HXN.out.2] at this; exact this) 1 (by omega)).trans (List.getElem?_eq_getElem (by rw [msC_len D10.rx.len.1, HXN.out.2]; omega))⟩
                    obtain ⟨k0u, k0⟩ := k0
                    obtain ⟨k1u, k1⟩ := k1
                    have fz0 : w10.frozen? ⟨gy, 0, none⟩ = false := Own.frozen (by have := D10.ox; rw [HXN.out.2] at this; exact this) 0
                    have fz1 : w10.frozen? ⟨gy, 1, none⟩ = false := Own.frozen (by have := D10.ox; rw [HXN.out.2] at this; exact this) 1
                    dsimp only at PT
                    rw [lm10] at PT
                    have O11 : Off [gy] w10 ((w10.setCell ⟨gy, 0, none⟩ (.int .i64 2)).setCell ⟨gy, 1, none⟩ (.slice p10 4 c10)) := ((Off.refl _ _).setCell _ _ (by simp)).setCell _ _ (by simp)
                    have P11 := P10.fresh O11 (fun y hy => by simp at hy; have := lYZ.out; omega)
                    have HDD : Hid (DrawnD xs (ys.set 0 ⟨2, mirRows ps10⟩)) := ⟨by rw [HXN.out.1]; omega, by rw [HXN.out.1]; omega, by rw [List.length_set, HXN.out.2]; omega, fun j _ hj => HOX.out j hj, fun j hj => by
                      rw [List.length_set] at hj
                      rcases Nat.eq_zero_or_pos j with rfl | hp
                      · have e : (ys.set 0 ⟨2, mirRows ps10⟩).getD 0 zM = ⟨2, mirRows ps10⟩ := by simp [List.getD_eq_getElem?_getD, List.getElem?_set_self (show 0 < ys.length by omega)]
                        rw [e]; exact HX10.out
                      · rw [List.getD_eq_getElem?_getD, List.getElem?_set_ne (by omega), ← List.getD_eq_getElem?_getD]
                        exact HOY.out j hj⟩
                    have HPT : Hid _ := PT
                    have ZF := Z4.off P11 (by simp; omega)
                    have YF := Y4.off P11 (by simp)
                    have hc0 : (0 : Int) < (K : Int) := by omega
                    clear D10 D9 M10 PT O11 s9 s10 o10 P10 hx1 hx2 hy1 hy2
                    go_wp2_with (first | (refine wpList_load_blk rfl 33 _ rfl g rfl ZF Tryz.underlying33 rfl (by kernel_rfl) ?_) | (refine wpList_store_blk rfl 33 _ _ rfl w.heap.size (#[.slice p0 x.xTape.length c0, .slice p1 x.xUsed.length c1, .int .i64 x.xSent, .slice p2 x.xHeard.length c2, .int .i64 x.xCheat.xWho, .int .i64 x.xCheat.xAt, .int .i64 x.xCheat.xBy, .bool x.xCheat.xCry, .bool x.xQuarrel.xSome, .int .i64 x.xQuarrel.xFrom, .int .i64 x.xQuarrel.xCheck, .int .i64 x.xQuarrel.xTo, .int .i64 x.xQuarrel.xTold, .int .i64 x.xQuarrel.xHeard, .int .i64 x.xQuarrel.xOther, .int .i64 x.xQuarrel.xVowed]) rfl rfl YF rfl (by kernel_rfl) (by kernel_rfl) ?_; intro w20 Y20 O20))
                    exact bodyPost_ret (v := .tuple #[.agg (#[.slice p0 x.xTape.length c0, .slice p1 x.xUsed.length c1, .int .i64 x.xSent, .slice p2 x.xHeard.length c2, .int .i64 x.xCheat.xWho, .int .i64 x.xCheat.xAt, .int .i64 x.xCheat.xBy, .bool x.xCheat.xCry, .bool x.xQuarrel.xSome, .int .i64 x.xQuarrel.xFrom, .int .i64 x.xQuarrel.xCheck, .int .i64 x.xQuarrel.xTo, .int .i64 x.xQuarrel.xTold, .int .i64 x.xQuarrel.xHeard, .int .i64 x.xQuarrel.xOther, .int .i64 x.xQuarrel.xVowed]), .slice (some ⟨gx, 0, none⟩) K cx, .slice (some ⟨gy, 0, none⟩) K cy]) (by simp [results, Tryz.results6, go_sem, Y20.at.1]) rfl ⟨_, x, _, _, xs, (ys.set 0 ⟨2, mirRows ps10⟩), rfl, FIN.out _ _ _ _ _ _ P11 O20 HPT.out.2 HPT.out.1 HDD.out⟩
                · as_aux_lemma =>
                    have e2 : (r9 == 2) = false := by simpa using h2'
                    have DD : Hid (DrawnD xs ys) := ⟨by rw [HXN.out.1]; omega, by rw [HXN.out.1]; omega, by rw [HXN.out.2]; omega, fun j _ hj => HOX.out j hj, HOY.out⟩
                    have S1 : Hid (StS n0 w9 (.slice (some ⟨gx, 0, none⟩) K cx) xs) := D9.stx (by rw [HXN.out.1]; omega)
                    have S2 : Hid (StS n0 w9 (.slice (some ⟨gy, 0, none⟩) K cy) ys) := D9.swap.stx (by rw [HXN.out.2]; omega)
                    have ZF := Z4.off P9 (by simp; omega)
                    have YF := Y4.off P9 (by simp)
                    clear h0' h1' h2' D9 s9
                    go_wp2_with (first | (refine wpList_load_blk rfl 33 _ rfl g rfl ZF Tryz.underlying33 rfl (by kernel_rfl) ?_) | (refine wpList_store_blk rfl 33 _ _ rfl w.heap.size (#[.slice p0 x.xTape.length c0, .slice p1 x.xUsed.length c1, .int .i64 x.xSent, .slice p2 x.xHeard.length c2, .int .i64 x.xCheat.xWho, .int .i64 x.xCheat.xAt, .int .i64 x.xCheat.xBy, .bool x.xCheat.xCry, .bool x.xQuarrel.xSome, .int .i64 x.xQuarrel.xFrom, .int .i64 x.xQuarrel.xCheck, .int .i64 x.xQuarrel.xTo, .int .i64 x.xQuarrel.xTold, .int .i64 x.xQuarrel.xHeard, .int .i64 x.xQuarrel.xOther, .int .i64 x.xQuarrel.xVowed]) rfl rfl YF rfl (by kernel_rfl) (by kernel_rfl) ?_; intro w20 Y20 O20))
                    exact bodyPost_ret (v := .tuple #[.agg (#[.slice p0 x.xTape.length c0, .slice p1 x.xUsed.length c1, .int .i64 x.xSent, .slice p2 x.xHeard.length c2, .int .i64 x.xCheat.xWho, .int .i64 x.xCheat.xAt, .int .i64 x.xCheat.xBy, .bool x.xCheat.xCry, .bool x.xQuarrel.xSome, .int .i64 x.xQuarrel.xFrom, .int .i64 x.xQuarrel.xCheck, .int .i64 x.xQuarrel.xTo, .int .i64 x.xQuarrel.xTold, .int .i64 x.xQuarrel.xHeard, .int .i64 x.xQuarrel.xOther, .int .i64 x.xQuarrel.xVowed]), .slice (some ⟨gx, 0, none⟩) K cx, .slice (some ⟨gy, 0, none⟩) K cy]) (by simp [results, Tryz.results6, go_sem, Y20.at.1]) rfl ⟨_, x, _, _, xs, ys, rfl, FIN.out _ _ _ _ _ _ P9 O20 S1.out S2.out DD.out⟩
  · as_aux_lemma =>
      go_wp2_with fail
      refine (spec_l4Bent _ a cap zs _ _ s4 (by omega)).mono ?_
      rintro e w5 ⟨u5, rfl, x5, hR5, hF5, ⟨j5, hj5, s5⟩, o5⟩
      obtain ⟨p0, c0, p1, c1, p2, c2, rfl, -⟩ := hR5 w5 [] (Off.refl _ _) (by simp)
      have Y5 := Y4.off o5 (by simp)
      have Z5 := Z4.off o5 (by simp; omega)
      have z5 := o5.size
      have lz4 := Z4.lt
      have B5 := B4.trans (o5.toBelow B4.size (by simp))
      clear Y4 Z4 B4 s4 HR4 HF
      go_wp2_with (refine wpList_store_blk rfl 33 _ _ rfl g (#[.slice p0 x5.xTape.length c0, .slice p1 x5.xUsed.length c1, .int .i64 x5.xSent, .slice p2 x5.xHeard.length c2, .int .i64 x5.xCheat.xWho, .int .i64 x5.xCheat.xAt, .int .i64 x5.xCheat.xBy, .bool x5.xCheat.xCry, .bool x5.xQuarrel.xSome, .int .i64 x5.xQuarrel.xFrom, .int .i64 x5.xQuarrel.xCheck, .int .i64 x5.xQuarrel.xTo, .int .i64 x5.xQuarrel.xTold, .int .i64 x5.xQuarrel.xHeard, .int .i64 x5.xQuarrel.xOther, .int .i64 x5.xQuarrel.xVowed]) rfl rfl Z5 rfl (by kernel_rfl) (by kernel_rfl) ?_; intro w6 Z6 O6)
      have Y6 := Y5.off O6 (by simp; omega)
      have B6 : Below w.heap.size w w6 := B5.trans (O6.toBelow B5.size (by simp; omega))
      have s6 := s5.off O6 (fun y hy => by simp at hy; omega)
      have z6 := O6.size
      have HR6 : Hid (∀ V cs, Off cs w6 V → (∀ z ∈ cs, z ≤ w.heap.size + 1 ∨ w6.heap.size ≤ z) → RdNet V (.agg (#[.slice p0 x5.xTape.length c0, .slice p1 x5.xUsed.length c1, .int .i64 x5.xSent, .slice p2 x5.xHeard.length c2, .int .i64 x5.xCheat.xWho, .int .i64 x5.xCheat.xAt, .int .i64 x5.xCheat.xBy, .bool x5.xCheat.xCry, .bool x5.xQuarrel.xSome, .int .i64 x5.xQuarrel.xFrom, .int .i64 x5.xQuarrel.xCheck, .int .i64 x5.xQuarrel.xTo, .int .i64 x5.xQuarrel.xTold, .int .i64 x5.xQuarrel.xHeard, .int .i64 x5.xQuarrel.xOther, .int .i64 x5.xQuarrel.xVowed])) x5) := fun W cs o h => by
        have o' : Off ([g] ++ cs) w5 W := (O6.mono (fun y hy => List.mem_append_left _ hy)).trans (o.mono (fun y hy => List.mem_append_right _ hy))
        exact hR5 W (([g] ++ cs).filter (fun z => z < w4.heap.size)) ⟨o'.os, o'.tape, o'.output, o'.size, fun i hi hn => o'.block i hi (fun hm => by
          by_cases hlt : i < w4.heap.size
          · exact hn (List.mem_filter.2 ⟨hm, by simpa using hlt⟩)
          · rcases List.mem_append.1 hm with k | k
            · simp at k; omega
            · rcases h i k with h' | h' <;> omega)⟩ (fun z hz => by have := (List.mem_filter.1 hz).2; simpa using this)
      have HF5 : Hid (Fit x5) := hF5
      have HK4 : Hid (0 + j + 1 + j5 ≤ 100) := by show _ ≤ _; omega
      generalize 0 + j + 1 + j5 = K4 at *
      have hK4 : K4 ≤ 100 := HK4.out
      clear hR5 hF5 Y5 Z5 B5 s5 o5 O6 hg z3 z2 lz3 lz4
      have sS := s6
      obtain ⟨wS, hwS⟩ : ∃ V, V = w6 := ⟨_, rfl⟩
      rw [← hwS] at Y6 Z6 B6 HR6 sS ⊢
      clear hwS s6 z6
      have lz4 := Z6.lt
      go_wp2_with fail
      refine (spec_l3Q _ a cap zs K4 _ sS (by omega)).mono ?_
      rintro e w5 ⟨q, rfl, hq, s5, o5⟩
      have hq2 : q ≤ 256 := by rcases hq with h | h <;> omega
      have HQ : Hid (isQ q) := hq
      have P5 : Off [w.heap.size + 1] wS w5 := o5
      have z5 := o5.size
      clear hq sS o5
      have lb5 := s5.blk.lt
      have D0 : Duo w5.heap.size ((w5.alloc (.cells #[] 38)).alloc (.cells #[] 38)) (.slice (some ⟨w5.heap.size, 0, none⟩) 0 0) (.slice (some ⟨w5.heap.size + 1, 0, none⟩) 0 0) w5.heap.size (w5.heap.size + 1) [] [] [] [] [] [] := ⟨Own.alloc (Own.made w5 38 2 #[] 0 (by omega) rfl) _, by simpa [msC] using Own.made (w5.alloc (.cells #[] 38)) 38 2 #[] 0 (by omega) rfl, trivial, trivial, by omega, (fun z hz => by simp at hz), by omega⟩
      have s6 := (s5.alloc (.cells #[] 38)).alloc (.cells #[] 38)
      have P6 : Off [w.heap.size + 1] wS ((w5.alloc (.cells #[] 38)).alloc (.cells #[] 38)) := (P5.alloc _).alloc _
      clear P5
      go_wp2_with fail
      refine (spec_l1Next _ a cap zs _ 3 _ s6 (by omega) (by omega)).mono ?_
      rintro e w7 ⟨r7, rfl, hr7, s7, o7⟩
      obtain ⟨h70, h71⟩ := hr7.1 (by omega)
      have P7 := P6.trans o7
      have D7 := D0.off o7 (fun z hz => by simp at hz; omega)
      obtain ⟨K, hK⟩ : ∃ K : Nat, (K : Int) = 1 + r7 := ⟨(1 + r7).toNat, by omega⟩
      have hK3 : 1 ≤ K ∧ K ≤ 3 := by omega
      have hrw : r7 = (K : Int) - 1 := by omega
      have hz7 := P7.size
      generalize hL0 : w5.heap.size = n0 at *
      clear D0 s5 s6 P6 o7 hr7
      subst hrw
      clear h70 h71 hK
      go_wp2
      go_loopw [8, 9, 10] (fun v v' i wr => ∃ m : Nat, ∃ gx gy : Nat, ∃ xs ys : List MMirror, ∃ us us' : List Value, ∃ bi bi' : List (List Nat), i = .int .i64 m ∧ xs.length + m = K ∧ ys.length = xs.length ∧ Duo n0 wr v v' gx gy xs ys us us' bi bi' ∧ OkMs xs ∧ OkMs ys ∧ Src wr (w.heap.size + 1) a cap zs (K4 + 1 + 1 + 8 * xs.length) ∧ Off [w.heap.size + 1] wS wr) (fun _ _ i _ => (intOf i).toNat)
      case atStart => exact ⟨K, _, _, [], [], [], [], [], [], (by go_num), by simp, rfl, D7, (fun j hj => by simp at hj), (fun j hj => by simp at hj), s7, P7⟩
      case round =>
        clear D7 s7 P7
        obtain ⟨m, gx, gy, xs, ys, us, us', bi, bi', rfl, hm, hly, D, okx, oky, s8, P8⟩ := hrel
        have HOX : Hid (OkMs xs) := okx
        have HOY : Hid (OkMs ys) := oky
        have HM : Hid (xs.length + m = K ∧ ys.length = xs.length) := ⟨hm, hly⟩
        have lD := D.lts
        have fD := D.fx
        have zr := P8.size
        clear okx oky
        by_cases h0 : 0 < m
        · as_aux_lemma =>
            have hi : (0 : Int) < (m : Int) := by omega
            obtain ⟨pv, cv, rfl⟩ := Own.value D.ox
            obtain ⟨pw, cw, rfl⟩ := Own.value D.oy
            obtain ⟨n, hn⟩ : ∃ n, xs.length = n := ⟨_, rfl⟩
            have HN : Hid (xs.length = n ∧ ys.length = n) := ⟨hn, by omega⟩
            clear hly
            rw [HN.out.1] at s8 ⊢
            rw [HN.out.2]
            rw [hn] at hm
            have hn3 : n ≤ 3 := by omega
            clear hn
            go_wp2_with fail
            refine (spec_l3DrawB _ a cap zs _ q _ s8 (by omega) hq2).mono ?_
            rintro e w9 ⟨p9, c9, ps9, bm9, rfl, M9, l49, E9, f9, s9, o9⟩
            have D9 := D.off o9 (fun z hz => by simp at hz; omega)
            have P9 := P8.trans o9
            have z9 := o9.size
            have HX9 : Hid (mirC q (mirRows ps9) = 0) := drawn_ok HQ.out l49 E9
            have lm9 : (mirRows ps9).length = 4 := by simp [mirRows]
            have hox := D9.ox
            rw [HN.out.1] at hox
            clear D s8 P8 o9 l49 E9
            go_wp2_with (at_builtin; refine wpList_append_Own rfl _ _ 34 rfl 38 iM (.agg #[.int .i64 0, .slice none 0 0]) 2 32 Tryz.underlying34 hiM hzM0 hzM1 hzM2 rfl (by decide) _ _ _ [gx] rfl (Own.alloc hox _) ⟨w9.heap.size, 0, none⟩ 1 1 [.int .i64 q, .slice p9 4 c9] rfl rfl ?c1 ?c2 ?c3 ?c4 ?c5 ?_)
            case c1 => exact World.news_of_block (Blk.new _ _ _)
            case c2 => intro u hu; simp only [List.mem_cons, List.not_mem_nil, or_false] at hu; rcases hu with h | h <;> (rw [h]; rfl)
            case c3 => omega
            case c4 => unfold maxLen; omega
            case c5 => omega
            intro g3 c3 w10 hO3 hoff hg3
            have D10 := Duo.pushX (L := wr.heap.size) (D9.off ((Off.refl [] _).alloc (.cells #[.int .i64 q, .slice p9 4 c9] 38)) (fun z hz => by cases hz)) ⟨q, mirRows ps9⟩ (M9.alloc _) lD (fun z hz => f9 z hz) (by omega) (by rw [HN.out.1]; exact hO3) hoff (by simpa using hg3)
            have s10 := (s9.alloc (.cells #[.int .i64 q, .slice p9 4 c9] 38)).off hoff (fun y hy => by simp at hy; omega)
            have P10 := (P9.alloc (.cells #[.int .i64 q, .slice p9 4 c9] 38)).fresh hoff (fun y hy => by simp at hy; omega)
            have lD10 := D10.lts
            have fD10 := D10.fx
            have zr10 := P10.size
            clear hO3 hoff hg3 D9 s9 P9 hox M9 f9 lD fD
            go_wp2_with fail
            refine (spec_l3DrawB _ a cap zs _ q _ s10 (by omega) hq2).mono ?_
            rintro e w11 ⟨p11, c11, ps11, bm11, rfl, M11, l411, E11, f11, s11, o11⟩
            have D11 := (D10.off o11 (fun z hz => by simp at hz; omega)).swap
            have P11 := P10.trans o11
            have z11 := o11.size
            have HX11 : Hid (mirC q (mirRows ps11) = 0) := drawn_ok HQ.out l411 E11
            have hoy := D11.ox
            rw [HN.out.2] at hoy
            clear D10 s10 P10 o11 l411 E11
            go_wp2_with (at_builtin; refine wpList_append_Own rfl _ _ 34 rfl 38 iM (.agg #[.int .i64 0, .slice none 0 0]) 2 32 Tryz.underlying34 hiM hzM0 hzM1 hzM2 rfl (by decide) _ _ _ [gy] rfl (Own.alloc hoy _) ⟨w11.heap.size, 0, none⟩ 1 1 [.int .i64 q, .slice p11 4 c11] rfl rfl ?d1 ?d2 ?d3 ?d4 ?d5 ?_)
            case d1 => exact World.news_of_block (Blk.new _ _ _)
            case d2 => intro u hu; simp only [List.mem_cons, List.not_mem_nil, or_false] at hu; rcases hu with h | h <;> (rw [h]; rfl)
            case d3 => omega
            case d4 => unfold maxLen; omega
            case d5 => omega
            intro g4 c4 w12 hO4 hoff4 hg4
            have D12 := (Duo.pushX (L := w10.heap.size) (D11.off ((Off.refl [] _).alloc (.cells #[.int .i64 q, .slice p11 4 c11] 38)) (fun z hz => by cases hz)) ⟨q, mirRows ps11⟩ (M11.alloc _) ⟨lD10.2.1, lD10.1, fun z hz => lD10.2.2 z hz.symm⟩ (fun z hz => f11 z hz) (by omega) (by rw [HN.out.2]; exact hO4) hoff4 (by simpa using hg4)).swap
            have s12 := (s11.alloc (.cells #[.int .i64 q, .slice p11 4 c11] 38)).off hoff4 (fun y hy => by simp at hy; omega)
            have P12 := (P11.alloc (.cells #[.int .i64 q, .slice p11 4 c11] 38)).fresh hoff4 (fun y hy => by simp at hy; omega)
            clear hO4 hoff4 hg4 D11 s11 P11 hoy M11 f11 lD10
            go_wp2
            go_roundw
            case rel => exact ⟨m - 1, _, _, _, _, _, _, _, _, (by rw [Int.natCast_sub (by omega)]; go_num), (by rw [List.length_append, HN.out.1]; simp; omega), (by rw [List.length_append, List.length_append, HN.out.1, HN.out.2]; rfl), D12, HOX.out.snoc HX9.out, HOY.out.snoc HX11.out, (by rw [List.length_append, HN.out.1]; have hh := s12; rw [show K4 + 1 + 1 + 8 * n + 4 + 4 = K4 + 1 + 1 + 8 * (n + 1) by omega] at hh; exact hh), P12⟩
            case measure => simp [intOf]; omega
        · as_aux_lemma =>
            obtain rfl : m = 0 := by omega
            have HXN : Hid (xs.length = K ∧ ys.length = K) := ⟨by omega, by omega⟩
            have hkk : K4 + 1 + 1 + 8 * xs.length ≤ 1000 := by omega
            clear hm hly HM lD fD
            go_wp2_with fail
            refine (spec_l1Next _ a cap zs _ 12 _ s8 (by omega) (by omega)).mono ?_
            rintro e w9 ⟨r9, rfl, hr9, s9, o9⟩
            have D9 := D.off o9 (fun z hz => by simp at hz; omega)
            have P9 := P8.trans o9
            have z9 := P9.size
            clear hr9 s8 P8 D o9 zr
            have lD := D9.lts
            have fD := D9.fx
            obtain ⟨cx, rfl, hx1, hx2⟩ := D9.shx (by have := HXN.out; omega)
            obtain ⟨cy, rfl, hy1, hy2⟩ := D9.swap.shx (by have := HXN.out; omega)
            rw [HXN.out.1] at hx1
            rw [HXN.out.2] at hy1
            rw [HXN.out.1, HXN.out.2] at D9 ⊢
            have FIN : Hid (∀ (W V : World) (v v' : Value) (ws ws' : List MMirror), Off [w.heap.size + 1] wS W → Off [w.heap.size] W V → StS n0 W v ws → StS n0 W v' ws' → DrawnD ws ws' → (∀ V' cs, Off cs V V' → (∀ z ∈ cs, z < w.heap.size) → RdNet V' (.agg (#[.slice p0 x5.xTape.length c0, .slice p1 x5.xUsed.length c1, .int .i64 x5.xSent, .slice p2 x5.xHeard.length c2, .int .i64 x5.xCheat.xWho, .int .i64 x5.xCheat.xAt, .int .i64 x5.xCheat.xBy, .bool x5.xCheat.xCry, .bool x5.xQuarrel.xSome, .int .i64 x5.xQuarrel.xFrom, .int .i64 x5.xQuarrel.xCheck, .int .i64 x5.xQuarrel.xTo, .int .i64 x5.xQuarrel.xTold, .int .i64 x5.xQuarrel.xHeard, .int .i64 x5.xQuarrel.xOther, .int .i64 x5.xQuarrel.xVowed])) x5) ∧ Fit x5 ∧ StS w.heap.size V v ws ∧ StS w.heap.size V v' ws' ∧ DrawnD ws ws' ∧ Below w.heap.size w V) := fun W V v v' ws ws' o1 o2 h1 h2 h3 => ⟨fun V' cs o3 hc => HR6.out V' ([w.heap.size + 1] ++ ([w.heap.size] ++ cs)) ((o1.mono (fun y hy => List.mem_append_left _ hy)).trans (((o2.mono (fun y hy => List.mem_append_left _ hy)).trans (o3.mono (fun y hy => List.mem_append_right _ hy))).mono (fun y hy => List.mem_append_right _ hy))) (fun z hz => by
              rcases List.mem_append.1 hz with k | k
              · simp at k; omega
              · rcases List.mem_append.1 k with k | k
                · simp at k; omega
                · have := hc z k; omega), HF5.out, h1.more o2 (by simp; omega) (by omega), h2.more o2 (by simp; omega) (by omega), h3, B6.trans ((o1.toBelow B6.size (fun z hz => by simp at hz; omega)).trans (o2.toBelow (Nat.le_trans B6.size o1.size) (fun z hz => by simp at hz; omega)))⟩
            have lYZ : Hid (w.heap.size < wS.heap.size) := by show _ < _; omega
            by_cases h0' : r9 = 0
            · as_aux_lemma =>
                have e0 : (r9 == 0) = true := by simpa using h0'
                clear h0'
                go_wp2_with fail
                refine (spec_l3Bent _ a cap zs _ q _ s9 (by omega) hq2).mono ?_
                rintro e w10 ⟨u10, rfl, x10, hR10, -, ⟨j10, hj10, s10⟩, o10⟩
                obtain ⟨p10, c10, rfl, -⟩ := hR10 w10 [] (Off.refl _ _) (by simp)
                have D10 := D9.off o10 (fun z hz => by simp at hz; omega)
                have P10 := P9.trans o10
                have z10 := o10.size
                have PT := D10.put0 (L := w9.heap.size) HXN.out.1 (by omega) (by omega) (by rw [HXN.out.2]; omega) x10 p10 c10 lD.1 (by omega) hR10
                have k0 : ∃ u, w10.cell? ⟨gx, 0, none⟩ = some u := ⟨_, (Own.cell (by have := D10.ox; rw [HXN.out.1] at this; exact this) 0 (by omega)).trans (List.getElem?_eq_getElem (by rw [msC_len D10.rx.len.1, HXN.out.1]; omega))⟩
                have k1 : ∃ u, w10.cell? ⟨gx, 1, none⟩ = some u := ⟨_, (Own.cell (by have := D10.ox; rw [HXN.out.1] at this; exact this) 1 (by omega)).trans (List.getElem?_eq_getElem (by rw [msC_len D10.rx.len.1, HXN.out.1]; omega))⟩
                obtain ⟨k0u, k0⟩ := k0
                obtain ⟨k1u, k1⟩ := k1
                have fz0 : w10.frozen? ⟨gx, 0, none⟩ = false := Own.frozen (by have := D10.ox; rw [HXN.out.1] at this; exact this) 0
                have fz1 : w10.frozen? ⟨gx, 1, none⟩ = false := Own.frozen (by have := D10.ox; rw [HXN.out.1] at this; exact this) 1
                have O11 : Off [gx] w10 ((w10.setCell ⟨gx, 0, none⟩ (.int .i64 x10.xQ)).setCell ⟨gx, 1, none⟩ (.slice p10 x10.xViews.length c10)) := ((Off.refl _ _).setCell _ _ (by simp)).setCell _ _ (by simp)
                have P11 := P10.fresh O11 (fun y hy => by simp at hy; have := lYZ.out; omega)
                have DD : DrawnD (xs.set 0 x10) ys := ⟨by rw [List.length_set, HXN.out.1]; omega, by rw [List.length_set, HXN.out.1]; omega, by rw [HXN.out.2]; omega, fun j hj0 hj => by
                  rw [List.length_set] at hj
                  rw [List.getD_eq_getElem?_getD, List.getElem?_set_ne (by omega), ← List.getD_eq_getElem?_getD]
                  exact HOX.out j hj, HOY.out⟩
                have HDD : Hid (DrawnD (xs.set 0 x10) ys) := DD
                have HPT : Hid _ := PT
                have ZF := Z6.off P11 (by simp; omega)
                have YF := Y6.off P11 (by simp)
                have hc0 : (0 : Int) < (K : Int) := by omega
                clear D10 D9 hR10 PT DD O11 s9 s10 o10 P10 hx1 hx2 hy1 hy2
                go_wp2_with (first | (refine wpList_load_blk rfl 33 _ rfl g rfl ZF Tryz.underlying33 rfl (by kernel_rfl) ?_) | (refine wpList_store_blk rfl 33 _ _ rfl w.heap.size (#[.slice p0 x5.xTape.length c0, .slice p1 x5.xUsed.length c1, .int .i64 x5.xSent, .slice p2 x5.xHeard.length c2, .int .i64 x5.xCheat.xWho, .int .i64 x5.xCheat.xAt, .int .i64 x5.xCheat.xBy, .bool x5.xCheat.xCry, .bool x5.xQuarrel.xSome, .int .i64 x5.xQuarrel.xFrom, .int .i64 x5.xQuarrel.xCheck, .int .i64 x5.xQuarrel.xTo, .int .i64 x5.xQuarrel.xTold, .int .i64 x5.xQuarrel.xHeard, .int .i64 x5.xQuarrel.xOther, .int .i64 x5.xQuarrel.xVowed]) rfl rfl YF rfl (by kernel_rfl) (by kernel_rfl) ?_; intro w20 Y20 O20))
                exact bodyPost_ret (v := .tuple #[.agg (#[.slice p0 x5.xTape.length c0, .slice p1 x5.xUsed.length c1, .int .i64 x5.xSent, .slice p2 x5.xHeard.length c2, .int .i64 x5.xCheat.xWho, .int .i64 x5.xCheat.xAt, .int .i64 x5.xCheat.xBy, .bool x5.xCheat.xCry, .bool x5.xQuarrel.xSome, .int .i64 x5.xQuarrel.xFrom, .int .i64 x5.xQuarrel.xCheck, .int .i64 x5.xQuarrel.xTo, .int .i64 x5.xQuarrel.xTold, .int .i64 x5.xQuarrel.xHeard, .int .i64 x5.xQuarrel.xOther, .int .i64 x5.xQuarrel.xVowed]), .slice (some ⟨gx, 0, none⟩) K cx, .slice (some ⟨gy, 0, none⟩) K cy]) (by simp [results, Tryz.results6, go_sem, Y20.at.1]) rfl ⟨_, x5, _, _, (xs.set 0 x10), ys, rfl, FIN.out _ _ _ _ _ _ P11 O20 HPT.out.1 HPT.out.2 HDD.out⟩
            · have e0 : (r9 == 0) = false := by simpa using h0'
              by_cases h1' : r9 = 1
              · have e1 : (r9 == 1) = true := by simpa using h1'
                have DD : Hid (DrawnD xs (ys.drop 1)) := ⟨by rw [HXN.out.1]; omega, by rw [HXN.out.1]; omega, by rw [List.length_drop, HXN.out.2]; omega, fun j _ hj => HOX.out j hj, fun j hj => by
                  rw [List.length_drop] at hj
                  have e : (ys.drop 1).getD j zM = ys.getD (j + 1) zM := by simp [List.getD_eq_getElem?_getD]
                  rw [e]
                  exact HOY.out (j + 1) (by omega)⟩
                have S1 : Hid (StS n0 w9 (.slice (some ⟨gx, 0, none⟩) K cx) xs) := D9.stx (by rw [HXN.out.1]; omega)
                have ZF := Z6.off P9 (by simp; omega)
                have YF := Y6.off P9 (by simp)
                have hc1 : (1 : Int) ≤ (K : Int) := by omega
                have hc2 : (1 : Int) ≤ (cy : Int) := by omega
                by_cases hcy : cy = 1
                · as_aux_lemma =>
                    subst hcy
                    obtain rfl : K = 1 := by omega
                    have hdr : ys.drop 1 = [] := by
                      have := HXN.out.2
                      match ys, this with
                      | [y], _ => rfl
                    have S2 : Hid (StS n0 w9 (.slice (some ⟨gy, 0, none⟩) 0 0) (ys.drop 1)) := fun V cs o hc => by rw [hdr]; exact ⟨_, _, rfl, Nat.zero_le _, fun h => absurd rfl h⟩
                    clear h0' h1' D9 s9 hdr
                    go_wp2_with (first | (refine wpList_load_blk rfl 33 _ rfl g rfl ZF Tryz.underlying33 rfl (by kernel_rfl) ?_) | (refine wpList_store_blk rfl 33 _ _ rfl w.heap.size (#[.slice p0 x5.xTape.length c0, .slice p1 x5.xUsed.length c1, .int .i64 x5.xSent, .slice p2 x5.xHeard.length c2, .int .i64 x5.xCheat.xWho, .int .i64 x5.xCheat.xAt, .int .i64 x5.xCheat.xBy, .bool x5.xCheat.xCry, .bool x5.xQuarrel.xSome, .int .i64 x5.xQuarrel.xFrom, .int .i64 x5.xQuarrel.xCheck, .int .i64 x5.xQuarrel.xTo, .int .i64 x5.xQuarrel.xTold, .int .i64 x5.xQuarrel.xHeard, .int .i64 x5.xQuarrel.xOther, .int .i64 x5.xQuarrel.xVowed]) rfl rfl YF rfl (by kernel_rfl) (by kernel_rfl) ?_; intro w20 Y20 O20))
                    exact bodyPost_ret (v := .tuple #[.agg (#[.slice p0 x5.xTape.length c0, .slice p1 x5.xUsed.length c1, .int .i64 x5.xSent, .slice p2 x5.xHeard.length c2, .int .i64 x5.xCheat.xWho, .int .i64 x5.xCheat.xAt, .int .i64 x5.xCheat.xBy, .bool x5.xCheat.xCry, .bool x5.xQuarrel.xSome, .int .i64 x5.xQuarrel.xFrom, .int .i64 x5.xQuarrel.xCheck, .int .i64 x5.xQuarrel.xTo, .int .i64 x5.xQuarrel.xTold, .int .i64 x5.xQuarrel.xHeard, .int .i64 x5.xQuarrel.xOther, .int .i64 x5.xQuarrel.xVowed]), .slice (some ⟨gx, 0, none⟩) 1 cx, .slice (some ⟨gy, 0, none⟩) 0 0]) (by simp [results, Tryz.results6, go_sem, Y20.at.1]) rfl ⟨_, x5, _, _, xs, (ys.drop 1), rfl, FIN.out _ _ _ _ _ _ P9 O20 S1.out S2.out DD.out⟩
                · as_aux_lemma =>
                    have S2 : Hid (StS n0 w9 (.slice (some ⟨gy, 2, none⟩) (K - 1) (cy - 1)) (ys.drop 1)) := D9.sty1 HXN.out.2 (by omega) (by omega)
                    clear h0' h1' D9 s9
                    go_wp2_with (first | (refine wpList_load_blk rfl 33 _ rfl g rfl ZF Tryz.underlying33 rfl (by kernel_rfl) ?_) | (refine wpList_store_blk rfl 33 _ _ rfl w.heap.size (#[.slice p0 x5.xTape.length c0, .slice p1 x5.xUsed.length c1, .int .i64 x5.xSent, .slice p2 x5.xHeard.length c2, .int .i64 x5.xCheat.xWho, .int .i64 x5.xCheat.xAt, .int .i64 x5.xCheat.xBy, .bool x5.xCheat.xCry, .bool x5.xQuarrel.xSome, .int .i64 x5.xQuarrel.xFrom, .int .i64 x5.xQuarrel.xCheck, .int .i64 x5.xQuarrel.xTo, .int .i64 x5.xQuarrel.xTold, .int .i64 x5.xQuarrel.xHeard, .int .i64 x5.xQuarrel.xOther, .int .i64 x5.xQuarrel.xVowed]) rfl rfl YF rfl (by kernel_rfl) (by kernel_rfl) ?_; intro w20 Y20 O20))
                    exact bodyPost_ret (v := .tuple #[.agg (#[.slice p0 x5.xTape.length c0, .slice p1 x5.xUsed.length c1, .int .i64 x5.xSent, .slice p2 x5.xHeard.length c2, .int .i64 x5.xCheat.xWho, .int .i64 x5.xCheat.xAt, .int .i64 x5.xCheat.xBy, .bool x5.xCheat.xCry, .bool x5.xQuarrel.xSome, .int .i64 x5.xQuarrel.xFrom, .int .i64 x5.xQuarrel.xCheck, .int .i64 x5.xQuarrel.xTo, .int .i64 x5.xQuarrel.xTold, .int .i64 x5.xQuarrel.xHeard, .int .i64 x5.xQuarrel.xOther, .int .i64 x5.xQuarrel.xVowed]), .slice (some ⟨gx, 0, none⟩) K cx, .slice (some ⟨gy, 2, none⟩) (K - 1) (cy - 1)]) (by simp [results, Tryz.results6, go_sem, Y20.at.1]) rfl ⟨_, x5, _, _, xs, (ys.drop 1), rfl, FIN.out _ _ _ _ _ _ P9 O20 S1.out S2.out DD.out⟩
              · have e1 : (r9 == 1) = false := by simpa using h1'
                by_cases h2' : r9 = 2
                · as_aux_lemma =>
                    have e2 : (r9 == 2) = true := by simpa using h2'
                    clear h0' h1' h2'
                    go_wp2_with fail
                    refine (spec_l3DrawB _ a cap zs _ 2 _ s9 (by omega) (by omega)).mono ?_
                    rintro e w10 ⟨p10, c10, ps10, bm10, rfl, M10, l410, E10, f10, s10, o10⟩
                    have D10 := (D9.off o10 (fun z hz => by simp at hz; omega)).swap
                    have P10 := P9.trans o10
                    have z10 := o10.size
                    have lm10 : (mirRows ps10).length = 4 := by simp [mirRows]
                    have HX10 : Hid (mirC 2 (mirRows ps10) = 0) := drawn_ok (.inl rfl) l410 E10
                    have PT := D10.put0 (L := w9.heap.size) HXN.out.2 (by omega) (by omega) (by rw [HXN.out.1]; omega) ⟨2, mirRows ps10⟩ p10 c10 lD.2.1 (by omega) (fun V cs o hc => ⟨p10, c10, rfl, (by rw [lm10]; exact (M10.off o (fun y hy hm => by have := f10 y hy; have := hc y hm; omega)).reads)⟩)
                    have k0 : ∃ u, w10.cell? ⟨gy, 0, none⟩ = some u := ⟨_, (Own.cell (by have := D10.ox; rw [HXN.out.2] at this; exact this) 0 (by omega)).trans (List.getElem?_eq_getElem (by rw [msC_len D10.rx.len.1, HXN.out.2]; omega))⟩
                    have k1 : ∃ u, w10.cell? ⟨gy, 1, none⟩ = some u := ⟨_, (Own.cell (by have := D10.ox; rw [HXN.out.2] at this; exact this) 1 (by omega)).trans (List.getElem?_eq_getElem (by rw [msC_len D10.rx.len.1, HXN.out.2]; omega))⟩
                    obtain ⟨k0u, k0⟩ := k0
                    obtain ⟨k1u, k1⟩ := k1
                    have fz0 : w10.frozen? ⟨gy, 0, none⟩ = false := Own.frozen (by have := D10.ox; rw [HXN.out.2] at this; exact this) 0
                    have fz1 : w10.frozen? ⟨gy, 1, none⟩ = false := Own.frozen (by have := D10.ox; rw [HXN.out.2] at this; exact this) 1
                    dsimp only at PT
                    rw [lm10] at PT
                    have O11 : Off [gy] w10 ((w10.setCell ⟨gy, 0, none⟩ (.int .i64 2)).setCell ⟨gy, 1, none⟩ (.slice p10 4 c10)) := ((Off.refl _ _).setCell _ _ (by simp)).setCell _ _ (by simp)
                    have P11 := P10.fresh O11 (fun y hy => by simp at hy; have := lYZ.out; omega)
                    have HDD : Hid (DrawnD xs (ys.set 0 ⟨2, mirRows ps10⟩)) := ⟨by rw [HXN.out.1]; omega, by rw [HXN.out.1]; omega, by rw [List.length_set, HXN.out.2]; omega, fun j _ hj => HOX.out j hj, fun j hj => by
                      rw [List.length_set] at hj
                      rcases Nat.eq_zero_or_pos j with rfl | hp
                      · have e : (ys.set 0 ⟨2, mirRows ps10⟩).getD 0 zM = ⟨2, mirRows ps10⟩ := by simp [List.getD_eq_getElem?_getD, List.getElem?_set_self (show 0 < ys.length by omega)]
                        rw [e]; exact HX10.out
                      · rw [List.getD_eq_getElem?_getD, List.getElem?_set_ne (by omega), ← List.getD_eq_getElem?_getD]
                        exact HOY.out j hj⟩
                    have HPT : Hid _ := PT
                    have ZF := Z6.off P11 (by simp; omega)
                    have YF := Y6.off P11 (by simp)
                    have hc0 : (0 : Int) < (K : Int) := by omega
                    clear D10 D9 M10 PT O11 s9 s10 o10 P10 hx1 hx2 hy1 hy2
                    go_wp2_with (first | (refine wpList_load_blk rfl 33 _ rfl g rfl ZF Tryz.underlying33 rfl (by kernel_rfl) ?_) | (refine wpList_store_blk rfl 33 _ _ rfl w.heap.size (#[.slice p0 x5.xTape.length c0, .slice p1 x5.xUsed.length c1, .int .i64 x5.xSent, .slice p2 x5.xHeard.length c2, .int .i64 x5.xCheat.xWho, .int .i64 x5.xCheat.xAt, .int .i64 x5.xCheat.xBy, .bool x5.xCheat.xCry, .bool x5.xQuarrel.xSome, .int .i64 x5.xQuarrel.xFrom, .int .i64 x5.xQuarrel.xCheck, .int .i64 x5.xQuarrel.xTo, .int .i64 x5.xQuarrel.xTold, .int .i64 x5.xQuarrel.xHeard, .int .i64 x5.xQuarrel.xOther, .int .i64 x5.xQuarrel.xVowed]) rfl rfl YF rfl (by kernel_rfl) (by kernel_rfl) ?_; intro w20 Y20 O20))
                    exact bodyPost_ret (v := .tuple #[.agg (#[.slice p0 x5.xTape.length c0, .slice p1 x5.xUsed.length c1, .int .i64 x5.xSent, .slice p2 x5.xHeard.length c2, .int .i64 x5.xCheat.xWho, .int .i64 x5.xCheat.xAt, .int .i64 x5.xCheat.xBy, .bool x5.xCheat.xCry, .bool x5.xQuarrel.xSome, .int .i64 x5.xQuarrel.xFrom, .int .i64 x5.xQuarrel.xCheck, .int .i64 x5.xQuarrel.xTo, .int .i64 x5.xQuarrel.xTold, .int .i64 x5.xQuarrel.xHeard, .int .i64 x5.xQuarrel.xOther, .int .i64 x5.xQuarrel.xVowed]), .slice (some ⟨gx, 0, none⟩) K cx, .slice (some ⟨gy, 0, none⟩) K cy]) (by simp [results, Tryz.results6, go_sem, Y20.at.1]) rfl ⟨_, x5, _, _, xs, (ys.set 0 ⟨2, mirRows ps10⟩), rfl, FIN.out _ _ _ _ _ _ P11 O20 HPT.out.2 HPT.out.1 HDD.out⟩
                · as_aux_lemma =>
                    have e2 : (r9 == 2) = false := by simpa using h2'
                    have DD : Hid (DrawnD xs ys) := ⟨by rw [HXN.out.1]; omega, by rw [HXN.out.1]; omega, by rw [HXN.out.2]; omega, fun j _ hj => HOX.out j hj, HOY.out⟩
                    have S1 : Hid (StS n0 w9 (.slice (some ⟨gx, 0, none⟩) K cx) xs) := D9.stx (by rw [HXN.out.1]; omega)
                    have S2 : Hid (StS n0 w9 (.slice (some ⟨gy, 0, none⟩) K cy) ys) := D9.swap.stx (by rw [HXN.out.2]; omega)
                    have ZF := Z6.off P9 (by simp; omega)
                    have YF := Y6.off P9 (by simp)
                    clear h0' h1' h2' D9 s9
                    go_wp2_with (first | (refine wpList_load_blk rfl 33 _ rfl g rfl ZF Tryz.underlying33 rfl (by kernel_rfl) ?_) | (refine wpList_store_blk rfl 33 _ _ rfl w.heap.size (#[.slice p0 x5.xTape.length c0, .slice p1 x5.xUsed.length c1, .int .i64 x5.xSent, .slice p2 x5.xHeard.length c2, .int .i64 x5.xCheat.xWho, .int .i64 x5.xCheat.xAt, .int .i64 x5.xCheat.xBy, .bool x5.xCheat.xCry, .bool x5.xQuarrel.xSome, .int .i64 x5.xQuarrel.xFrom, .int .i64 x5.xQuarrel.xCheck, .int .i64 x5.xQuarrel.xTo, .int .i64 x5.xQuarrel.xTold, .int .i64 x5.xQuarrel.xHeard, .int .i64 x5.xQuarrel.xOther, .int .i64 x5.xQuarrel.xVowed]) rfl rfl YF rfl (by kernel_rfl) (by kernel_rfl) ?_; intro w20 Y20 O20))
                    exact bodyPost_ret (v := .tuple #[.agg (#[.slice p0 x5.xTape.length c0, .slice p1 x5.xUsed.length c1, .int .i64 x5.xSent, .slice p2 x5.xHeard.length c2, .int .i64 x5.xCheat.xWho, .int .i64 x5.xCheat.xAt, .int .i64 x5.xCheat.xBy, .bool x5.xCheat.xCry, .bool x5.xQuarrel.xSome, .int .i64 x5.xQuarrel.xFrom, .int .i64 x5.xQuarrel.xCheck, .int .i64 x5.xQuarrel.xTo, .int .i64 x5.xQuarrel.xTold, .int .i64 x5.xQuarrel.xHeard, .int .i64 x5.xQuarrel.xOther, .int .i64 x5.xQuarrel.xVowed]), .slice (some ⟨gx, 0, none⟩) K cx, .slice (some ⟨gy, 0, none⟩) K cy]) (by simp [results, Tryz.results6, go_sem, Y20.at.1]) rfl ⟨_, x5, _, _, xs, ys, rfl, FIN.out _ _ _ _ _ _ P9 O20 S1.out S2.out DD.out⟩
end Go.Proofs.YtepobckhfodngabGreat
