/-
  FnLacks answers true whatever bytes it draws from: what one party has of a mirror tells nothing: with another part, that it does not know, it may be worth anything.
-/
import Derived.Test.YtadppilldijijabDraw3
import Derived.Test.YtadppilldijijabLawM
import Derived.Test.YtadppilldijijabMirT
import Derived.Test.YtadppilldijijabLw
import Derived.Deep.RegionHeld3
import Derived.Deep.CutRange
import Derived.Deep.Cut
import Derived.Deep.RegionWith
import Derived.ShutString
import Derived.ChangeOld
import Derived.Below
namespace Go.Proofs.Ytadppilldijijab.fnLacks
open Go.ChangeShapes Go.WideShapes Go.ChangeAt Go.RowKit
open Go.ChangeMaps (open_string shut_string)
set_option linter.unusedVariables false

theorem own : ownKnob Try.prog.godebug = none := by kernel_rfl
theorem laidOut : laidOutB Try.prog = true := by kernel_rfl

theorem fieldMR_0 (x y z : Value) (w : World) : (Instr.field 31 (.agg #[x, y, z]) 0).run Try.prog w = .ok x w := by kernel_rfl
theorem rdm {W : World} {p : Option Addr} {c : Nat} {q : Int} {xs : List Int} {bs : List Nat} (h : Mat W (.slice p 4 c) (mirRows xs) bs) : RdMirror W (.agg #[.int .i64 q, .slice p 4 c]) ⟨q, mirRows xs⟩ := ⟨p, c, rfl, h.reads⟩
set_option maxHeartbeats 8000000 in
set_option maxRecDepth 100000 in
theorem walk (a0 : Option Addr) (len0 cap0 : Nat) (z0 : List Int) (w : World) (w0 : IsRow .u8 w a0 len0 cap0 z0) :
    Calls Try.prog 3 #[.slice a0 len0 cap0] w fun e w' => e = .returned (.bool true) ∧ Below w.heap.size w w' := by
  obtain ⟨zs, rfl, hr, hw⟩ := w0.reads
  clear w0
  have hby := bytes_of hw
  clear hw
  by_cases hl : 1048576 < zs.length
  · go_enter Try.func3, Try.ntmps3
    go_wp2_with fail
    refine (lwBig_yes _ _ _ _ hl).mono ?_
    rintro e w' ⟨rfl, rfl⟩
    go_wp2
    go_ret
    exact ⟨rfl, Below.refl _ _⟩
  · have hl' : zs.length ≤ 1048576 := by omega
    obtain ⟨i0, hi, hz0, hz1, hz2⟩ := info_parts Try.infoI
    go_enter Try.func3, Try.ntmps3
    go_wp2_with fail
    refine (lwBig_no _ _ _ _ hl').mono ?_
    rintro e w' ⟨rfl, rfl⟩
    go_wp2_with fail
    refine (spec_DrawMirrorOf a0 cap0 zs w hr hl' hby).mono ?_
    rintro e w1 ⟨q, p, n, c, xs, rfl, hR1, hb1⟩
    obtain ⟨p', c', hv'⟩ := hR1.shp
    simp only [Value.slice.injEq] at hv'
    obtain ⟨rfl, rfl, rfl⟩ := hv'
    have KM := fun w h => impl_MirrorOf q (.slice p xs.length c) xs w h
    have KS := fun w h => spec_MirrorOf q (.slice p xs.length c) xs w h
    by_cases hc : (mirrorOfR q xs).xCode = 0
    · obtain ⟨hq, h4, hok⟩ := mirrorOfR_code hc
      rw [mirrorOfR_ok hq h4 hok] at KM
      clear KS hc
      have HL : Hid (xs.length = 4) := h4
      have HO : Hid (okV q xs = true) := hok
      have HQ : Hid (isQ q) := hq
      have q1 : 2 ≤ q := by rcases hq with h | h <;> omega
      have q2 : q ≤ 256 := by rcases hq with h | h <;> omega
      rw [h4] at KM hR1 ⊢
      clear h4 hok hq
      go_wp2_with fail
      refine (KM _ hR1).mono ?_
      rintro e w2 ⟨u, bm, rfl, hT, hf2, hb2⟩
      obtain ⟨pm, cm, rfl, hM⟩ := hT
      have hM2 : Mat w2 (.slice pm 4 cm) (mirRows xs) bm := hM
      have hlm : (mirRows xs).length = 4 := by simp [mirRows]
      dsimp only
      rw [hlm]
      have M2 := Blk.new w2 31 #[.int .i64 0, .int .i64 q, .slice pm 4 cm]
      have B2 : Below w.heap.size w w2 := hb1.trans (hb2.mono hb1.size)
      have R2 := (hR1.below hb2).below ((Below.refl _ _).alloc (Nat.le_refl _) (.cells #[.int .i64 0, .int .i64 q, .slice pm 4 cm] 31))
      replace hM2 := hM2.alloc (.cells #[.int .i64 0, .int .i64 q, .slice pm 4 cm] 31)
      replace B2 := B2.alloc B2.size (.cells #[.int .i64 0, .int .i64 q, .slice pm 4 cm] 31)
      clear hM hlm hb1 hb2 hf2 hR1 KM
      have hbm : ∀ y ∈ bm, y < w2.heap.size + 1 := fun y hy => by have := hM2.lt y hy; simpa using this
      go_wp2_with fail
      generalize hgM : w2.heap.size = bM at *
      clear hgM
      refine Calls.at (F := fun V => Blk V bM 31 #[.int .i64 0, .int .i64 q, .slice pm 4 cm] ∧ Mat V (.slice pm 4 cm) (mirRows xs) bm ∧ Reads V .i64 (.slice p 4 c) xs ∧ Below w.heap.size w V) ⟨M2, hM2, R2, B2⟩ ?_
      clear M2 hM2 R2 B2
      rintro V ⟨M2, hM2, R2, B2⟩
      refine (lwAt_at a0 cap0 zs 2 4 _ (hr.below B2) hl' hby (by omega) (by omega)).mono ?_
      rintro e w3 ⟨r, rfl, hr3, hb3⟩
      obtain ⟨r1, r2⟩ := hr3.1 (by omega)
      obtain ⟨m, rfl⟩ := Int.eq_ofNat_of_zero_le r1
      have hm4 : m < 4 := by omega
      have M3 := M2.keep hb3
      have hM3 := hM2.keep hb3
      have R3 := R2.below hb3
      have B3 := B2.trans (hb3.mono B2.size)
      clear M2 hM2 R2 B2 hb3 hr3
      go_wp2_with fail
      refine (lwAt_at a0 cap0 zs 3 q _ (hr.below B3) hl' hby (by omega) (by omega)).mono ?_
      rintro e w4 ⟨want, rfl, hwt, hb4⟩
      obtain ⟨t1, t2⟩ := hwt.1 (by omega)
      have M4 := M3.keep hb4
      have hM4 := hM3.keep hb4
      have R4 := R3.below hb4
      have B4 := B3.trans (hb4.mono B3.size)
      clear M3 hM3 R3 B3 hb4 hwt hr hby
      have KV := fun (u : Value) (W : World) (h : RdMirror W u ⟨q, mirRows xs⟩) => impl_ValueOf u ⟨q, mirRows xs⟩ (-1) W h
      dsimp only at KV
      rw [value_mirRows (-1) HQ.out HL.out HO.out rfl] at KV
      have s1 : 0 ≤ sum4 xs % q := Int.emod_nonneg _ (by omega)
      have s2 : sum4 xs % q < q := Int.emod_lt_of_pos _ (by omega)
      obtain ⟨was, hwas⟩ : ∃ x, x = sum4 xs % q := ⟨_, rfl⟩
      have HW : Hid (was = sum4 xs % q) := hwas
      rw [← hwas] at KV s1 s2
      clear hwas
      have ma := M4.at.1
      have fd := field_1
      go_wp2_with fail
      refine (KV _ _ (rdm hM4)).mono ?_
      rintro e w5 ⟨u, rfl, hu, hb5⟩
      unfold RdIntResult at hu
      subst hu
      dsimp only
      have M5 := M4.keep hb5
      have hM5 := hM4.keep hb5
      have R5 := R4.below hb5
      have B5 := B4.trans (hb5.mono B4.size)
      have lM := M4.lt
      have lB := hM4.lt
      have z5 := hb5.size
      clear M4 hM4 R4 B4 hb5 ma KV
      have OW0 := Own.made w5 2 1 #[] 0 (by omega) rfl
      have R5' := R5.below ((Below.refl _ _).alloc (Nat.le_refl _) (.cells #[] 2))
      obtain ⟨ad, rfl, hcell⟩ := R5'.cells (by intro h; have := HL.out; rw [h] at this; cases this)
      have hZl : (xs.map (Value.int .i64)).length = 4 := by rw [List.length_map]; exact HL.out
      have hZ1 : ∀ v ∈ xs.map (Value.int .i64), v.oneCell' = true := by intro u hu; obtain ⟨y, _, rfl⟩ := List.mem_map.1 hu; rfl
      clear R5 R5'
      generalize hZ : xs.map (Value.int .i64) = Z at *
      have HZ : Hid (xs.map (Value.int .i64) = Z) := hZ
      clear hZ
      go_wp2_with (at_builtin; refine wpList_append_Own rfl _ _ 24 rfl 2 i0 (.int .i64 0) 1 8 Try.underlying24 hi hz0 hz1 hz2 rfl (by decide) _ _ _ [w5.heap.size] rfl OW0 ad 4 c Z rfl ?c0 hcell hZ1 ?c3 ?c4 ?c5 ?_)
      case c4 => unfold maxLen; omega
      intro g cg w6 hO6 hoff hg6
      have hgl : w5.heap.size ≤ g := by
        rcases hg6 with h | h
        all_goals
          (try simp at h)
          omega
      have O56 : Off [w5.heap.size] w5 w6 := ((Off.refl _ _).alloc _).trans hoff
      have M6 := M5.off O56 (by simp; omega)
      have hM6 := hM5.off O56 (fun y hy hm => by have := lB y hy; simp at hm; omega)
      have B6 : Below w.heap.size w w6 := B5.trans (O56.toBelow B5.size (fun y hy => by simp at hy; have := B5.size; omega))
      have hI6 : Own w6 2 1 (.slice (some ⟨g, 0, none⟩) 4 cg) 4 (xs.map (Value.int .i64)) [g] := by rw [HZ.out]; simpa using hO6
      have c6 : w6.cell? ⟨g, m, none⟩ = some (.int .i64 (xs.getD m 0)) := by
        rw [Own.cell hI6 m (by omega)]
        have : m < xs.length := by rw [HL.out]; exact hm4
        simp [this]
      have f6 : w6.frozen? ⟨g, m, none⟩ = false := Own.frozen hI6 m
      have hxb := (okV_iff q xs).1 HO.out m (by rw [HL.out]; exact hm4)
      obtain ⟨x1, x2⟩ := hxb
      have HY : Hid (0 ≤ (xs.getD m 0 + want - was) % q ∧ (xs.getD m 0 + want - was) % q < q) := ⟨Int.emod_nonneg _ (by omega), Int.emod_lt_of_pos _ (by omega)⟩
      have HWT : Hid (sum4 (xs.set m ((xs.getD m 0 + want - was) % q)) % q = want) := by
        show _ = _
        rw [sum4_set HL.out m hm4, HW.out]
        exact want_back q (sum4 xs) (xs.getD m 0) want t1 t2
      have B5s := B5.size
      clear hO6 hoff hg6 O56 M5 hM5 B5 OW0 hcell hZ1 hZl HZ
      generalize xs.getD m 0 = x at *
      have hi4 : (m : Int) < 4 := by omega
      have hi0 : (0 : Int) ≤ (m : Int) := by omega
      have g1 : -512 ≤ x + want := by omega
      have g2 : x + want ≤ 512 := by omega
      go_wp2_with fail
      refine (lwMod_at q _ _ (by omega) q2).mono ?_
      rintro e w' ⟨rfl, rfl⟩
      have HYS : Hid ((xs.set m ((x + want - was) % q)).length = 4) := by show _ = _; rw [List.length_set]; exact HL.out
      have HOY : Hid (okV q (xs.set m ((x + want - was) % q)) = true) := okV_set HQ.out HO.out m _ HY.out.1 HY.out.2
      have hI7 : Own (w6.setCell ⟨g, m, none⟩ (.int .i64 ((x + want - was) % q))) 2 1 (.slice (some ⟨g, 0, none⟩) 4 cg) 4 ((xs.set m ((x + want - was) % q)).map (Value.int .i64)) [g] := by
        rw [List.map_set]; exact Own.set hI6 m _
      have R7 := Own.reads (xs := xs.set m ((x + want - was) % q)) (by rw [HYS.out]; exact hI7)
      have M7 := M6.setOther ⟨g, m, none⟩ (.int .i64 ((x + want - was) % q)) (by simp; omega)
      have hM7 : Mat (w6.setCell ⟨g, m, none⟩ (.int .i64 ((x + want - was) % q))) (.slice pm 4 cm) (mirRows xs) bm := hM6.off (cs := [g]) ((Off.refl _ _).setCell _ _ (by simp)) (fun y hy hm => by have := lB y hy; simp at hm; omega)
      have hgw : w.heap.size ≤ g := by have := B6.size; have := B5s; omega
      have B7 : Below w.heap.size w (w6.setCell ⟨g, m, none⟩ (.int .i64 ((x + want - was) % q))) := B6.setCell (by simpa using hgw) _
      have lg7 : g < (w6.setCell ⟨g, m, none⟩ (.int .i64 ((x + want - was) % q))).heap.size := by have := Own.lt hI7 g (by simp); exact this
      have KX := fun u w h => impl_MirrorOf q u (xs.set m ((x + want - was) % q)) w h
      rw [mirrorOfR_ok HQ.out HYS.out HOY.out] at KX
      have KV2 := fun (u : Value) (W : World) (h : RdMirror W u ⟨q, mirRows (xs.set m ((x + want - was) % q))⟩) => impl_ValueOf u ⟨q, mirRows (xs.set m ((x + want - was) % q))⟩ (-1) W h
      dsimp only at KV2
      rw [value_mirRows (-1) HQ.out HYS.out HOY.out rfl, HWT.out] at KV2
      have HRW : Hid ((mirRows (xs.set m ((x + want - was) % q))).getD m [] = (mirRows xs).getD m []) := mirRows_set_row HL.out m hm4 _
      have HRL : Hid (((mirRows xs).getD m []).length = 4) := (mirRows_sq HL.out).2 m hm4
      clear hI6 M6 hM6 B6 hI7 HY HWT
      generalize hys : xs.set m ((x + want - was) % q) = ys at *
      clear hys
      go_wp2_with fail
      refine (KX _ _ (by simpa [HYS.out] using R7)).mono ?_
      rintro e w8 ⟨u, bx, rfl, hT, hf8, hb8⟩
      obtain ⟨px, cx, rfl, hX⟩ := hT
      have hX8 : Mat w8 (.slice px 4 cx) (mirRows ys) bx := hX
      have hlx : (mirRows ys).length = 4 := by simp [mirRows]
      dsimp only
      rw [hlx]
      have M8 := (M7.keep hb8).alloc (.cells #[.int .i64 0, .int .i64 q, .slice px 4 cx] 31)
      have hM8 := (hM7.keep hb8).alloc (.cells #[.int .i64 0, .int .i64 q, .slice px 4 cx] 31)
      have X8 := Blk.new w8 31 #[.int .i64 0, .int .i64 q, .slice px 4 cx]
      have hX9 := hX8.alloc (.cells #[.int .i64 0, .int .i64 q, .slice px 4 cx] 31)
      have B8 : Below w.heap.size w w8 := B7.trans (hb8.mono B7.size)
      replace B8 := B8.alloc B8.size (.cells #[.int .i64 0, .int .i64 q, .slice px 4 cx] 31)
      obtain ⟨gm, om, pq, dq, hpm, ltm, cm1, rm1⟩ := hM8.reads.lane m (by rw [(mirRows_sq HL.out).1]; exact hm4)
      obtain ⟨gx, ox, px', dx', hpx, ltx, cx1, rx1⟩ := hX9.reads.lane m (by rw [(mirRows_sq HYS.out).1]; exact hm4)
      rw [HRW.out] at cx1 rx1
      rw [HRL.out] at cm1 cx1 rm1 rx1
      subst hpm hpx
      clear M7 hM7 R7 B7 hb8 hX hX8 hf8 hlx c6 f6 KX
      have hSo : Hid (∀ W, Below (w8.alloc (.cells #[.int .i64 0, .int .i64 q, .slice (some ⟨gx, ox, none⟩) 4 cx] 31)).heap.size (w8.alloc (.cells #[.int .i64 0, .int .i64 q, .slice (some ⟨gx, ox, none⟩) 4 cx] 31)) W → ((∀ o, W.cell? ⟨bM, o, none⟩ = (#[.int .i64 0, .int .i64 q, .slice (some ⟨gm, om, none⟩) 4 cm] : Array Value)[o]?) ∧ (∀ o, W.cell? ⟨w8.heap.size, o, none⟩ = (#[.int .i64 0, .int .i64 q, .slice (some ⟨gx, ox, none⟩) 4 cx] : Array Value)[o]?) ∧ W.cell? ⟨gm, om + m, none⟩ = some (.slice pq 4 dq) ∧ W.cell? ⟨gx, ox + m, none⟩ = some (.slice px' 4 dx'))) := fun W b => ⟨(M8.keep b).at.1, (X8.keep b).at.1, kcell cm1 b, kcell cx1 b⟩
      have hS0 := hSo.out _ (Below.refl _ _).drew
      clear cm1 cx1
      have hm' : (m : Int) < 4 := hi4
      have tok : True := trivial
      have B8d := B8.drew
      go_wp2_with fail
      go_region_held3 (fun V => ((∀ o, V.cell? ⟨bM, o, none⟩ = (#[.int .i64 0, .int .i64 q, .slice (some ⟨gm, om, none⟩) 4 cm] : Array Value)[o]?) ∧ (∀ o, V.cell? ⟨w8.heap.size, o, none⟩ = (#[.int .i64 0, .int .i64 q, .slice (some ⟨gx, ox, none⟩) 4 cx] : Array Value)[o]?) ∧ V.cell? ⟨gm, om + m, none⟩ = some (.slice pq 4 dq) ∧ V.cell? ⟨gx, ox + m, none⟩ = some (.slice px' 4 dx'))) (first | exact hS0 | exact hS1 | exact hS2) (first | (go_at_call 14; refine (lwNums_same _ _ _ _ (rx1.below (Below.refl _ _).drew) (rm1.below (Below.refl _ _).drew)).mono ?_; rintro e v1 ⟨rfl, k1⟩; have b1 := (Below.refl _ _).drew.trans (k1.mono (Nat.le_refl _)); have hS1 := hSo.out _ b1; have B9 := B8d.trans (k1.mono B8d.size); have hXv := hX9.keep b1) | (go_at_call 12; refine (KV2 _ _ (rdm hXv)).mono ?_; rintro e v2 ⟨u2, rfl, hu2, k2⟩; unfold RdIntResult at hu2; subst hu2; have hS2 := hSo.out _ (b1.trans (k2.mono b1.size)); have B10 := B9.trans (k2.mono B9.size); dsimp only))
      go_wp2
      go_ret
      exact ⟨rfl, B10⟩
    · have HR : Hid ((mirrorOfR q xs).xCode ≠ 0) := hc
      clear hc
      generalize mirrorOfR q xs = R at *
      have hne : (R.xCode != 0) = true := by simpa using HR.out
      go_wp2_with fail
      refine (KM _ hR1).mono ?_
      rintro e w2 ⟨u, bm, rfl, hT, hf2, hb2⟩
      obtain ⟨pm, cm, rfl⟩ := hT.shp
      have M2 := Blk.new w2 31 #[.int .i64 R.xCode, .int .i64 R.xMirror.xQ, .slice pm R.xMirror.xViews.length cm]
      have R2 := (hR1.below hb2).below ((Below.refl _ _).alloc (Nat.le_refl _) (.cells #[.int .i64 R.xCode, .int .i64 R.xMirror.xQ, .slice pm R.xMirror.xViews.length cm] 31))
      have B2 : Below w.heap.size w w2 := hb1.trans (hb2.mono hb1.size)
      replace B2 := B2.alloc B2.size (.cells #[.int .i64 R.xCode, .int .i64 R.xMirror.xQ, .slice pm R.xMirror.xViews.length cm] 31)
      clear hT hf2 hb1 hb2 hR1 KM
      have hS0 := M2.at.1
      have fd := fieldMR_0
      go_wp2_with fail
      go_region_held3 (fun V => ∀ o, V.cell? ⟨w2.heap.size, o, none⟩ = (#[.int .i64 R.xCode, .int .i64 R.xMirror.xQ, .slice pm R.xMirror.xViews.length cm] : Array Value)[o]?) (first | exact hS0 | exact hS1) (first | (go_at_call 10; refine (KS _ (R2.below (Below.refl _ _).drew)).mono ?_; rintro e w3 ⟨u, b3, rfl, hT3, hf3, hb3⟩; obtain ⟨p3, c3, rfl⟩ := hT3.shp; have M3 := M2.drew.keep hb3; have hS1 := M3.at.1; have B3 := B2.drew.trans (hb3.mono B2.drew.size); clear hT3 hf3))
      go_wp2
      go_ret
      exact ⟨by simp, B3⟩

/-! the row's step -/
set_option maxRecDepth 100000 in
theorem lifted (os : Os) (started : os.Started) (H : Type) (enc : TypeId × Value → H) :
    ReturnsInHanded {} Try.checked os 3 .any (Rows.fnLacksSpec.pre6 enc Try.prog Try.f3 Rows.fnLacksRow.domain false) (Rows.fnLacksSpec.post enc Try.prog Try.f3 false true false false) := by
  refine returnsInHanded_of_change (C := Try.checked) own started (by kernel_rfl) Try.func3
    (ChangeSpec.witness6 (enc := enc) (C := Try.checked) false ⟨#[], #[.slice none 0 0], []⟩ 8 (by kernel_rfl) (by kernel_rfl) (by kernel_rfl) (by kernel_rfl)) ?_
  intro W base args ds gs before hval0 hW hcnd _
  have hval : ∀ (j : Nat) t v, Try.f3.params[j]? = some t → args[j]? = some v → Value.okWide Try.prog W .any base t v := hval0
  have hW' := hW
  obtain ⟨p, q, hA0, hV, rfl, hfz, hnd⟩ := hW
  have hA : DataW.TrodAll enc Try.prog W 0 (fun _ => true) true Try.f3.params.toList args.toList ds p := hA0
  rw [Try.params3] at hA hval
  obtain ⟨v0, vs0, d0, ds0, p0, q0, hargs, rfl, rfl, h0, r0⟩ := trodAll_cons hA
  obtain ⟨rfl, rfl, rfl⟩ := trodAll_nil r0
  obtain rfl : args = #[v0] := by cases args; simp_all
  obtain ⟨rfl, rfl⟩ := trodVars_none hV
  obtain ⟨a0, len0, cap0, rfl⟩ := okWide_slice Try.underlying22 (hval 0 22 v0 rfl rfl)
  have k0 := h0
  have lt0 : ∀ x ∈ p0, x.block < W.heap.size := by obtain ⟨m, hm⟩ := k0; exact DataW.trod_lt m _ _ _ hm
  obtain ⟨z0, w0⟩ : ∃ zs, IsRow .u8 W a0 len0 cap0 zs := by
    obtain ⟨fuel, hf⟩ := h0
    rcases open_ints Try.underlying22 Try.underlying5 (by kernel_rfl) hf with ⟨hcs, _⟩ | ⟨x, l, c, zs, hcs, _, hl, hm, hz, _, hcell, hwz⟩
    · simp [Value.cells] at hcs
      obtain ⟨rfl, rfl, rfl⟩ := hcs
      exact ⟨[], .inl ⟨rfl, rfl, rfl, rfl⟩⟩
    · simp [Value.cells] at hcs
      obtain ⟨rfl, rfl, rfl⟩ := hcs
      exact ⟨zs, .inr ⟨_, rfl, hl, hm, by simpa using hz, hcell, hwz⟩⟩
  clear hA0 hval0
  refine (walk a0 len0 cap0 z0 W w0).mono fun e W' ⟨he, bel⟩ => ?_
  subst he
  exact ⟨_, rfl, _, _, _, [], _, [], hW', trodAll_mk1 (shut_bool Try.underlying4 _), (trodAll_cons_mk (Below.trod laidOut (by kernel_rfl) (of_decide_eq_true (by kernel_rfl)) k0 bel lt0) trodAll_mk0), rfl, bel.frame _, fun h => by cases h⟩

theorem over : Rows.fnLacksRow.holds Try.pinned (OpenSpec.ofChange Rows.fnLacksSpec) :=
  OpenClaim.holds_of_wide 3 Try.f3 rfl rfl rfl rfl rfl rfl rfl ⟨rfl, rfl, rfl, rfl, rfl⟩ rfl rfl rfl rfl rfl (by kernel_rfl) Try.func3 (by kernel_rfl)
    (of_decide_eq_true (by kernel_rfl)) (by unfold Func.isWrapper; first | (rw [if_pos (by decide +kernel)]; kernel_rfl) | (rw [if_neg (by decide +kernel)]; exact ⟨rfl, rfl⟩))
    (fun os started H enc _ => lifted os started H enc)

end Go.Proofs.Ytadppilldijijab.fnLacks
namespace Go.Proofs.Ytadppilldijijab
theorem fnLacks_holds : Rows.FnLacksSaid := fnLacks.over
#print axioms fnLacks_holds
end Go.Proofs.Ytadppilldijijab
