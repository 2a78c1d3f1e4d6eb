/-
  FnMirrors answers true whatever bytes it draws from: four parts make their sum, for all that know them.
-/
import Derived.Test.YtadppilldijijaaDraw3c
import Derived.Test.YtadppilldijijaaLawM
import Derived.Test.YtadppilldijijaaMirR
import Derived.Test.YtadppilldijijaaMirT
import Derived.Test.YtadppilldijijaaLw
import Derived.Deep.RegionHeld3
import Derived.Deep.CutRange
import Derived.Deep.Cut
import Derived.Deep.RegionWith
import Derived.ShutString
import Derived.ChangeOld
import Derived.Below
namespace Go.Proofs.Ytadppilldijijaa.fnMirrors
open Go.ChangeShapes Go.WideShapes Go.ChangeAt Go.RowKit
open Go.ChangeMaps (open_string shut_string)
set_option linter.unusedVariables false

theorem own : ownKnob Try.prog.godebug = none := by kernel_rfl
theorem laidOut : laidOutB Try.prog = true := by kernel_rfl

theorem fieldMR_0 (x y z : Value) (w : World) : (Instr.field 61 (.agg #[x, y, z]) 0).run Try.prog w = .ok x w := by kernel_rfl
theorem rdm {W : World} {p : Option Addr} {c : Nat} {q : Int} {xs : List Int} {bs : List Nat} (h : Mat W (.slice p 4 c) (mirRows xs) bs) : RdMirror W (.agg #[.int .i64 q, .slice p 4 c]) ⟨q, mirRows xs⟩ := ⟨p, c, rfl, h.reads⟩
theorem psum_le {q : Int} {xs : List Int} (hq : q ≤ 256) (h4 : xs.length = 4) (h : okV q xs = true) : ∀ m, m ≤ 4 → 0 ≤ psum xs m ∧ psum xs m ≤ 256 * m
  | 0, _ => by simp [psum]
  | m + 1, hm => by
    have h1 := psum_le hq h4 h m (by omega)
    have h2 := (okV_iff q xs).1 h m (by omega)
    rw [psum]
    omega
theorem psum4 (xs : List Int) : psum xs 4 = sum4 xs := by simp only [psum, sum4]; omega
set_option maxHeartbeats 8000000 in
set_option maxRecDepth 100000 in
theorem walk (a0 : Option Addr) (len0 cap0 : Nat) (z0 : List Int) (w : World) (w0 : IsRow .u8 w a0 len0 cap0 z0) :
    Calls Try.prog 7 #[.slice a0 len0 cap0] w fun e w' => e = .returned (.bool true) ∧ Below w.heap.size w w' := by
  obtain ⟨zs, rfl, hr, hw⟩ := w0.reads
  clear w0
  have hby := bytes_of hw
  clear hw
  by_cases hl : 1048576 < zs.length
  · go_enter Try.func7, Try.ntmps7
    go_wp2_with fail
    refine (lwBig_yes _ _ _ _ hl).mono ?_
    rintro e w' ⟨rfl, rfl⟩
    go_wp2
    go_ret
    exact ⟨rfl, Below.refl _ _⟩
  · have hl' : zs.length ≤ 1048576 := by omega
    go_enter Try.func7, Try.ntmps7
    go_wp2_with fail
    refine (lwBig_no _ _ _ _ hl').mono ?_
    rintro e w' ⟨rfl, rfl⟩
    go_wp2_with fail
    refine (spec_DrawMirrorOf a0 cap0 zs w hr hl' hby).mono ?_
    rintro e w1 ⟨q, p, n, c, xs, rfl, hR1, hb1⟩
    obtain ⟨p', c', hv'⟩ := hR1.shp
    simp only [Value.slice.injEq] at hv'
    obtain ⟨rfl, rfl, rfl⟩ := hv'
    have KM := fun w h => impl_MirrorOf q (.slice p xs.length c) xs w h
    have KS := fun w h => spec_MirrorOf q (.slice p xs.length c) xs w h
    by_cases hc : (mirrorOfR q xs).xCode = 0
    · obtain ⟨hq, h4, hok⟩ := mirrorOfR_code hc
      rw [mirrorOfR_ok hq h4 hok] at KM
      clear KS hc
      have HL : Hid (xs.length = 4) := h4
      have HO : Hid (okV q xs = true) := hok
      have HQ : Hid (isQ q) := hq
      have q1 : 2 ≤ q := by rcases hq with h | h <;> omega
      have q2 : q ≤ 256 := by rcases hq with h | h <;> omega
      rw [h4] at KM hR1 ⊢
      clear h4 hok hq
      go_wp2_with fail
      refine (KM _ hR1).mono ?_
      rintro e w2 ⟨u, bm, rfl, hT, hf2, hb2⟩
      obtain ⟨pm, cm, rfl, hM⟩ := hT
      have hM2 : Mat w2 (.slice pm 4 cm) (mirRows xs) bm := hM
      have hlm : (mirRows xs).length = 4 := by simp [mirRows]
      dsimp only
      rw [hlm]
      have M2 := Blk.new w2 61 #[.int .i64 0, .int .i64 q, .slice pm 4 cm]
      have B2 : Below w.heap.size w w2 := hb1.trans (hb2.mono hb1.size)
      have R2 := (hR1.below hb2).below ((Below.refl _ _).alloc (Nat.le_refl _) (.cells #[.int .i64 0, .int .i64 q, .slice pm 4 cm] 61))
      replace hM2 := hM2.alloc (.cells #[.int .i64 0, .int .i64 q, .slice pm 4 cm] 61)
      replace B2 := B2.alloc B2.size (.cells #[.int .i64 0, .int .i64 q, .slice pm 4 cm] 61)
      clear hM hlm hb1 hb2 hf2 hR1 KM
      have ma := M2.at.1
      go_wp2_with fail
      generalize hgM : w2.heap.size = bM at *
      clear hgM ma
      have HB4 : Hid (∀ m, m ≤ 4 → 0 ≤ psum xs m ∧ psum xs m ≤ 256 * m) := psum_le q2 HL.out HO.out
      go_loop [6, 7] (fun s i => ∃ m : Nat, m ≤ 4 ∧ i = .int .i64 m ∧ s = .int .i64 (psum xs m)) (fun _ i => 4 - (intOf i).toNat)
      case atStart => exact ⟨0, Nat.zero_le _, rfl, rfl⟩
      case round =>
        obtain ⟨m, hm, rfl, rfl⟩ := hrel
        by_cases hlt : m < 4
        · obtain ⟨g2, o2, rfl, hl2, d1⟩ := R2.one m (by rw [HL.out]; exact hlt)
          have hi : (m : Int) < 4 := by omega
          have hi0 : (0 : Int) ≤ (m : Int) := by omega
          have hs := HB4.out m hm
          have hs1 := HB4.out (m + 1) (by omega)
          have HE : Hid (psum xs (m + 1) = psum xs m + xs.getD m 0) := rfl
          rw [HE.out] at hs1
          generalize psum xs m = s at *
          generalize xs.getD m 0 = y at *
          have y1 : -2000 ≤ y := by omega
          have y2 : y ≤ 2000 := by omega
          have s1 : s ≤ 2000 := by omega
          go_wp2
          go_round
          case rel => exact ⟨m + 1, by omega, by go_num, by rw [HE.out]⟩
          case measure => simp [intOf]; omega
        · obtain rfl : m = 4 := by omega
          have HP : Hid (psum xs 4 = sum4 xs) := psum4 xs
          rw [HP.out]
          have s1 : 0 ≤ sum4 xs := by rw [← HP.out]; exact (HB4.out 4 (by omega)).1
          have s2 : sum4 xs ≤ 1024 := by rw [← HP.out]; have := (HB4.out 4 (by omega)).2; omega
          have KV : ∀ (but : Int) (u : Value) (W : World), isBut but = true → RdMirror W u ⟨q, mirRows xs⟩ → Calls Try.prog 45 #[u, .int .i64 but] W fun e W' => ∃ u, e = .returned u ∧ RdIntResult W' u ⟨0, sum4 xs % q⟩ ∧ Below W.heap.size W W' := fun but u W hbt h => by
            have := impl_ValueOf u ⟨q, mirRows xs⟩ but W h
            dsimp only at this
            rw [value_mirRows but HQ.out HL.out HO.out hbt] at this
            exact this
          have KA : ∀ (but : Int) (u : Value) (W : World), isBut but = true → RdMirror W u ⟨q, mirRows xs⟩ → Calls Try.prog 46 #[u, .int .i64 but] W fun e W' => e = .returned (.bool true) ∧ Below W.heap.size W W' := fun but u W hbt h => by
            have := impl_IsAlike u ⟨q, mirRows xs⟩ but W h
            dsimp only at this
            rw [isAlike_mirRows but HQ.out HL.out HO.out hbt] at this
            exact this
          have KF : ∀ (u : Value) (W : World), RdMirror W u ⟨q, mirRows xs⟩ → Calls Try.prog 48 #[u] W fun e W' => e = .returned (.int .i64 0) ∧ Below W.heap.size W W' := fun u W h => by
            have := impl_MirrorFault u ⟨q, mirRows xs⟩ W h
            dsimp only at this
            rw [mirC_mirRows HQ.out HL.out HO.out] at this
            exact this
          clear R2 HB4 HP
          generalize hsum : sum4 xs = sm at *
          clear hsum
          have f0 := field_0
          have f1 := field_1
          have hmd : (sm % q != sm % q) = false := by simp
          go_wp2_with fail
          go_loopw [8] (fun i wr => ∃ m : Nat, m ≤ 5 ∧ i = .int .i64 ((m : Int) - 1) ∧ Blk wr bM 61 #[.int .i64 0, .int .i64 q, .slice pm 4 cm] ∧ Mat wr (.slice pm 4 cm) (mirRows xs) bm ∧ Below w.heap.size w wr) (fun i _ => (4 - intOf i).toNat)
          case atStart => exact ⟨0, Nat.zero_le _, rfl, M2, hM2, B2⟩
          case round =>
            clear M2 hM2 B2
            obtain ⟨m, hm, rfl, M, hMm, B⟩ := hrel
            by_cases hlt2 : m < 5
            · have hbt : isBut ((m : Int) - 1) = true := decide_eq_true (by omega)
              have HBT : Hid (isBut ((m : Int) - 1) = true) := hbt
              clear hbt
              have hi5 : (m : Int) - 1 < 4 := by omega
              have hE : Hid (((m + 1 : Nat) : Int) - 1 = (m : Int) - 1 + 1) := by show _ = _; omega
              have hmb : 0 ≤ (m : Int) ∧ (m : Int) < 5 := by omega
              obtain ⟨j, hj⟩ : ∃ j : Int, j = (m : Int) - 1 := ⟨_, rfl⟩
              have HJ : Hid (j = (m : Int) - 1) := hj
              have hj1 : -1 ≤ j := by omega
              rw [← hj] at HBT hi5 hE ⊢
              clear hj hmb
              have ma := M.at.1
              go_wp2_with fail
              refine (KV _ _ _ HBT.out (rdm hMm)).mono ?_
              rintro e v1 ⟨u, rfl, hu, k1⟩
              unfold RdIntResult at hu
              subst hu
              dsimp only
              have M1 := M.keep k1
              have hM1 := hMm.keep k1
              have B1 := B.trans (k1.mono B.size)
              clear M hMm B k1 ma
              have ma := M1.at.1
              go_wp2_with fail
              refine (lwMod_at q _ _ (by omega) q2).mono ?_
              rintro e w' ⟨rfl, rfl⟩
              go_wp2_with fail
              refine (KV _ _ _ HBT.out (rdm hM1)).mono ?_
              rintro e v2 ⟨u, rfl, hu, k2⟩
              unfold RdIntResult at hu
              subst hu
              dsimp only
              have M3 := M1.keep k2
              have hM3 := hM1.keep k2
              have B3 := B1.trans (k2.mono B1.size)
              clear M1 hM1 B1 k2 ma
              have ma := M3.at.1
              go_wp2_with fail
              refine (KA _ _ _ HBT.out (rdm hM3)).mono ?_
              rintro e v3 ⟨rfl, k3⟩
              have M5 := M3.keep k3
              have hM5 := hM3.keep k3
              have B5 := B3.trans (k3.mono B3.size)
              clear M3 hM3 B3 k3 ma
              go_wp2
              go_roundw
              case rel => exact ⟨m + 1, by omega, by rw [hE.out], M5, hM5, B5⟩
              case measure => simp [intOf]; omega
            · obtain rfl : m = 5 := by omega
              have HR0 : Hid (Reads w .u8 (.slice a0 zs.length cap0) zs) := hr
              clear hr
              go_wp2_with fail
              refine (spec_DrawValueOf a0 cap0 zs _ (HR0.out.below B) hl' hby).mono ?_
              rintro e w3 ⟨u, x, but, rfl, hRS, hb3⟩
              have hX3 := hRS w3 [] (Off.refl _ _) (fun z hz => by cases hz)
              obtain ⟨px, cx, rfl, hx3⟩ := hX3
              have hX : Hid (∀ W, Below w3.heap.size w3 W → RdMirror W (.agg #[.int .i64 x.xQ, .slice px x.xViews.length cx]) x) := fun W b => ⟨px, cx, rfl, hx3.below b⟩
              have M3 := (M.keep hb3).alloc (.cells #[.int .i64 x.xQ, .slice px x.xViews.length cx] 59)
              have hM3 := (hMm.keep hb3).alloc (.cells #[.int .i64 x.xQ, .slice px x.xViews.length cx] 59)
              have B3 : Below w.heap.size w w3 := B.trans (hb3.mono B.size)
              replace B3 := B3.alloc B3.size (.cells #[.int .i64 x.xQ, .slice px x.xViews.length cx] 59)
              have X3 := Blk.new w3 59 #[.int .i64 x.xQ, .slice px x.xViews.length cx]
              have b3 : Below w3.heap.size w3 (w3.alloc (.cells #[.int .i64 x.xQ, .slice px x.xViews.length cx] 59)) := (Below.refl _ _).alloc (Nat.le_refl _) _
              clear M hMm B hb3 hx3 hRS
              have KI := fun u W h => impl_ValueOf u x but W h
              have KSV := fun u W h => spec_ValueOf u x but W h
              have KIA := fun u W h => impl_IsAlike u x but W h
              have KSA := fun u W h => spec_IsAlike u x but W h
              generalize valueR x.xQ x.xViews but = V at *
              generalize isAlikeR x.xQ x.xViews but = A at *
              obtain ⟨vc, vv⟩ := V
              have xa := X3.at.1
              go_wp2_with fail
              refine (KI _ _ (hX.out _ b3)).mono ?_
              rintro e w4 ⟨u, rfl, hu, k4⟩
              unfold RdIntResult at hu
              subst hu
              dsimp only
              have M4 := (M3.keep k4).alloc (.cells #[.int .i64 vc, .int .i64 vv] 27)
              have hM4 := (hM3.keep k4).alloc (.cells #[.int .i64 vc, .int .i64 vv] 27)
              have X4 := (X3.keep k4).alloc (.cells #[.int .i64 vc, .int .i64 vv] 27)
              have V4 := Blk.new w4 27 #[.int .i64 vc, .int .i64 vv]
              have B4 : Below w.heap.size w w4 := B3.trans (k4.mono B3.size)
              replace B4 := B4.alloc B4.size (.cells #[.int .i64 vc, .int .i64 vv] 27)
              have b4 := b3.trans (k4.mono b3.size)
              replace b4 := b4.alloc b4.size (.cells #[.int .i64 vc, .int .i64 vv] 27)
              clear M3 hM3 X3 B3 b3 k4 xa KI
              have HS : Hid (∀ W, Below (w4.alloc (.cells #[.int .i64 vc, .int .i64 vv] 27)).heap.size (w4.alloc (.cells #[.int .i64 vc, .int .i64 vv] 27)) W → (∀ o, W.cell? ⟨bM, o, none⟩ = (#[.int .i64 0, .int .i64 q, .slice pm 4 cm] : Array Value)[o]?) ∧ (∀ o, W.cell? ⟨w3.heap.size, o, none⟩ = (#[.int .i64 x.xQ, .slice px x.xViews.length cx] : Array Value)[o]?) ∧ (∀ o, W.cell? ⟨w4.heap.size, o, none⟩ = (#[.int .i64 vc, .int .i64 vv] : Array Value)[o]?)) := fun W b => ⟨(M4.keep b).at.1, (X4.keep b).at.1, (V4.keep b).at.1⟩
              go_wp2_with fail
              have d0 : Below (w4.alloc (.cells #[.int .i64 vc, .int .i64 vv] 27)).heap.size (w4.alloc (.cells #[.int .i64 vc, .int .i64 vv] 27)) (w4.alloc (.cells #[.int .i64 vc, .int .i64 vv] 27)).drew := (Below.refl _ _).drew
              have tA : True := trivial
              go_region_held3 (fun V => (∀ o, V.cell? ⟨bM, o, none⟩ = (#[.int .i64 0, .int .i64 q, .slice pm 4 cm] : Array Value)[o]?) ∧ (∀ o, V.cell? ⟨w3.heap.size, o, none⟩ = (#[.int .i64 x.xQ, .slice px x.xViews.length cx] : Array Value)[o]?) ∧ (∀ o, V.cell? ⟨w4.heap.size, o, none⟩ = (#[.int .i64 vc, .int .i64 vv] : Array Value)[o]?)) (first | exact HS.out _ d0 | exact HS.out _ d1 | exact HS.out _ d2 | exact HS.out _ d3 | exact HS.out _ d4 | exact HS.out _ d5) (first | (go_at_call 48; refine (KF _ _ (rdm (hM4.keep d0))).mono ?_; rintro e v1 ⟨rfl, k1⟩; have d1 := d0.trans (k1.mono d0.size); clear k1) | (go_at_call 49; have _t := tA; clear _t tA; refine (KSV _ _ (hX.out _ (b4.trans (d1.mono b4.size)))).mono ?_; rintro e v2 ⟨u, rfl, hu, k2⟩; unfold RdIntResult at hu; subst hu; dsimp only; have d2 := d1.trans (k2.mono d1.size); clear k2) | (go_at_call 49; refine (KSV _ _ (hX.out _ (b4.trans (d2.mono b4.size)))).mono ?_; rintro e v3 ⟨u, rfl, hu, k3⟩; unfold RdIntResult at hu; subst hu; dsimp only; have d3 := d2.trans (k3.mono d2.size); clear k3) | (go_at_call 46; refine (KIA _ _ (hX.out _ (b4.trans (d3.mono b4.size)))).mono ?_; rintro e v4 ⟨rfl, k4⟩; have d4 := d3.trans (k4.mono d3.size); clear k4) | (go_at_call 50; refine (KSA _ _ (hX.out _ (b4.trans (d4.mono b4.size)))).mono ?_; rintro e v5 ⟨rfl, k5⟩; have d5 := d4.trans (k5.mono d4.size); clear k5))
              have B9 := B4.trans (d5.mono B4.size)
              clear d0 d1 d2 d3 d4 d5 M4 X4 V4 hM4 B4
              go_wp2
              go_ret
              exact ⟨by simp, B9⟩
    · have HR : Hid ((mirrorOfR q xs).xCode ≠ 0) := hc
      clear hc
      generalize mirrorOfR q xs = R at *
      have hne : (R.xCode == 0) = false := by simpa using HR.out
      go_wp2_with fail
      refine (KM _ hR1).mono ?_
      rintro e w2 ⟨u, bm, rfl, hT, hf2, hb2⟩
      obtain ⟨pm, cm, rfl⟩ := hT.shp
      have M2 := Blk.new w2 61 #[.int .i64 R.xCode, .int .i64 R.xMirror.xQ, .slice pm R.xMirror.xViews.length cm]
      have R2 := (hR1.below hb2).below ((Below.refl _ _).alloc (Nat.le_refl _) (.cells #[.int .i64 R.xCode, .int .i64 R.xMirror.xQ, .slice pm R.xMirror.xViews.length cm] 61))
      have B2 : Below w.heap.size w w2 := hb1.trans (hb2.mono hb1.size)
      replace B2 := B2.alloc B2.size (.cells #[.int .i64 R.xCode, .int .i64 R.xMirror.xQ, .slice pm R.xMirror.xViews.length cm] 61)
      clear hT hf2 hb1 hb2 hR1 KM
      have hS0 := M2.at.1
      have fd := fieldMR_0
      go_wp2_with fail
      go_region_held3 (fun V => ∀ o, V.cell? ⟨w2.heap.size, o, none⟩ = (#[.int .i64 R.xCode, .int .i64 R.xMirror.xQ, .slice pm R.xMirror.xViews.length cm] : Array Value)[o]?) (first | exact hS0 | exact hS1) (first | (go_at_call 44; refine (KS _ (R2.below (Below.refl _ _).drew)).mono ?_; rintro e w3 ⟨u, b3, rfl, hT3, hf3, hb3⟩; obtain ⟨p3, c3, rfl⟩ := hT3.shp; have M3 := M2.drew.keep hb3; have hS1 := M3.at.1; have B3 := B2.drew.trans (hb3.mono B2.drew.size); clear hT3 hf3))
      go_wp2
      go_ret
      exact ⟨by simp, B3⟩

/-! the row's step -/
set_option maxRecDepth 100000 in
theorem lifted (os : Os) (started : os.Started) (H : Type) (enc : TypeId × Value → H) :
    ReturnsInHanded {} Try.checked os 7 .any (Rows.fnMirrorsSpec.pre6 enc Try.prog Try.f7 Rows.fnMirrorsRow.domain false) (Rows.fnMirrorsSpec.post enc Try.prog Try.f7 false true false false) := by
  refine returnsInHanded_of_change (C := Try.checked) own started (by kernel_rfl) Try.func7
    (ChangeSpec.witness6 (enc := enc) (C := Try.checked) false ⟨#[], #[.slice none 0 0], []⟩ 8 (by kernel_rfl) (by kernel_rfl) (by kernel_rfl) (by kernel_rfl)) ?_
  intro W base args ds gs before hval0 hW hcnd _
  have hval : ∀ (j : Nat) t v, Try.f7.params[j]? = some t → args[j]? = some v → Value.okWide Try.prog W .any base t v := hval0
  have hW' := hW
  obtain ⟨p, q, hA0, hV, rfl, hfz, hnd⟩ := hW
  have hA : DataW.TrodAll enc Try.prog W 0 (fun _ => true) true Try.f7.params.toList args.toList ds p := hA0
  rw [Try.params7] at hA hval
  obtain ⟨v0, vs0, d0, ds0, p0, q0, hargs, rfl, rfl, h0, r0⟩ := trodAll_cons hA
  obtain ⟨rfl, rfl, rfl⟩ := trodAll_nil r0
  obtain rfl : args = #[v0] := by cases args; simp_all
  obtain ⟨rfl, rfl⟩ := trodVars_none hV
  obtain ⟨a0, len0, cap0, rfl⟩ := okWide_slice Try.underlying22 (hval 0 22 v0 rfl rfl)
  have k0 := h0
  have lt0 : ∀ x ∈ p0, x.block < W.heap.size := by obtain ⟨m, hm⟩ := k0; exact DataW.trod_lt m _ _ _ hm
  obtain ⟨z0, w0⟩ : ∃ zs, IsRow .u8 W a0 len0 cap0 zs := by
    obtain ⟨fuel, hf⟩ := h0
    rcases open_ints Try.underlying22 Try.underlying5 (by kernel_rfl) hf with ⟨hcs, _⟩ | ⟨x, l, c, zs, hcs, _, hl, hm, hz, _, hcell, hwz⟩
    · simp [Value.cells] at hcs
      obtain ⟨rfl, rfl, rfl⟩ := hcs
      exact ⟨[], .inl ⟨rfl, rfl, rfl, rfl⟩⟩
    · simp [Value.cells] at hcs
      obtain ⟨rfl, rfl, rfl⟩ := hcs
      exact ⟨zs, .inr ⟨_, rfl, hl, hm, by simpa using hz, hcell, hwz⟩⟩
  clear hA0 hval0
  refine (walk a0 len0 cap0 z0 W w0).mono fun e W' ⟨he, bel⟩ => ?_
  subst he
  exact ⟨_, rfl, _, _, _, [], _, [], hW', trodAll_mk1 (shut_bool Try.underlying4 _), (trodAll_cons_mk (Below.trod laidOut (by kernel_rfl) (of_decide_eq_true (by kernel_rfl)) k0 bel lt0) trodAll_mk0), rfl, bel.frame _, fun h => by cases h⟩

theorem over : Rows.fnMirrorsRow.holds Try.pinned (OpenSpec.ofChange Rows.fnMirrorsSpec) :=
  OpenClaim.holds_of_wide 7 Try.f7 rfl rfl rfl rfl rfl rfl rfl ⟨rfl, rfl, rfl, rfl, rfl⟩ rfl rfl rfl rfl rfl (by kernel_rfl) Try.func7 (by kernel_rfl)
    (of_decide_eq_true (by kernel_rfl)) (by unfold Func.isWrapper; first | (rw [if_pos (by decide +kernel)]; kernel_rfl) | (rw [if_neg (by decide +kernel)]; exact ⟨rfl, rfl⟩))
    (fun os started H enc _ => lifted os started H enc)

end Go.Proofs.Ytadppilldijijaa.fnMirrors
namespace Go.Proofs.Ytadppilldijijaa
theorem fnMirrors_holds : Rows.FnMirrorsSaid := fnMirrors.over
#print axioms fnMirrors_holds
end Go.Proofs.Ytadppilldijijaa
