/-
  A sign, in the model: l8Sign, l8Asked.
-/
import Derived.Test.YtepobckhfodngaoGreatSgM
import Derived.Test.YtepobckhfodngaoGreatAdS
import Derived.Test.YtepobckhfodngaoGreatOwn6
import Derived.Test.YtepobckhfodngaoGreatPfO
import Derived.Deep.Cut
namespace Go.Proofs.YtepobckhfodngaoGreat
open Go.ChangeShapes Go.WideShapes Go.ChangeAt Go.RowKit
set_option linter.unusedVariables false
theorem spec_l8Part_at (b0 : Nat) (xss : List (List Int)) (part : Nat) (w : World) (FX : Four w b0 256 xss) (hown : ∀ i, i < 4 → pt xss i i = 0) (hp : part < 4) :
    Calls Tryz.prog 85 #[.pointer (some ⟨b0, 0, none⟩), .int .i64 part] w fun e w' => ∃ (g cap : Nat) (bs : List Nat), e = .returned (.slice (some ⟨g, 0, none⟩) 8 cap) ∧ (∀ y ∈ bs, w.heap.size ≤ y ∧ y < w'.heap.size) ∧ Below w.heap.size w w' ∧ ∀ k, k < 8 → ∃ u, ∀ W cs, Off cs w' W → (∀ y ∈ bs, y ∉ cs) → MirAt W g (k * 2) 2 u (unflat (sgP xss part k)) := by
  refine (spec_l8Part b0 xss part w FX hown hp).mono ?_
  rintro e w1 ⟨v, bs, rfl, hO, hbs, hb⟩
  have hl := pbL_len xss part
  obtain ⟨g, cap, rfl, hat⟩ := hO.atAll (by rw [hl]; omega)
  have hlt := hO.lt
  rw [hl]
  refine ⟨g, cap, bs, rfl, fun y hy => ⟨hbs y hy, hlt y hy⟩, hb, fun k hk => ?_⟩
  obtain ⟨u, hu⟩ := hat k (by rw [hl]; exact hk)
  have hg : (pbL xss part).getD k zM = shM (bpF xss part) k := by unfold pbL; simp [hk]
  rw [hg] at hu
  refine ⟨u, fun W cs o hn => ?_⟩
  have := hu W cs o hn
  unfold shM at this
  rwa [bpF_q] at this
set_option maxHeartbeats 16000000 in
set_option maxRecDepth 100000 in
theorem spec_l8Sign (b0 bM : Nat) (x : MNet) (bs : List Nat) (m : Nat) (xss : List (List Int)) (w : World) (N : NetIn w b0 x bs) (hx : NetB m x) (hm : m ≤ 199000) (hq0 : x.xQuarrel.xSome = false) (FX : ∀ W, Off (b0 :: bs) w W → Four W bM 256 xss) (hown : ∀ i, i < 4 → pt xss i i = 0) :
    Calls Tryz.prog 62 #[.pointer (some ⟨b0, 0, none⟩), .pointer (some ⟨bM, 0, none⟩)] w fun e w' => ∃ cs p c bm, e = .returned (.tuple #[.agg #[.int .i64 (mOf (sgX xss x).xQuarrel.xSome 2 (sgF xss x)).xQ, .slice p (mOf (sgX xss x).xQuarrel.xSome 2 (sgF xss x)).xViews.length c], .bool (!(sgX xss x).xQuarrel.xSome)]) ∧ Mat w' (.slice p (mOf (sgX xss x).xQuarrel.xSome 2 (sgF xss x)).xViews.length c) (mOf (sgX xss x).xQuarrel.xSome 2 (sgF xss x)).xViews bm ∧ (∀ y ∈ bm, w.heap.size ≤ y ∧ y ∉ cs) ∧ NetIn w' b0 (sgX xss x) cs ∧ (∀ y ∈ cs, y ∈ bs ∨ w.heap.size ≤ y) ∧ Off (b0 :: bs) w w' := by
  obtain ⟨hx1, hx2, hx3, hL, hH, -, -⟩ := sg_ok hown hx
  have a0 := fun k (_ : k < 8) => sgP_ok xss (part := 0) (by omega) (hown 0 (by omega)) k
  have a1 := fun k (_ : k < 8) => (sgP_ok xss (part := 1) (by omega) (hown 1 (by omega)) k).1
  have a2 := fun k (_ : k < 8) => sgP_ok xss (part := 2) (by omega) (hown 2 (by omega)) k
  have a3 := fun k (_ : k < 8) => (sgP_ok xss (part := 3) (by omega) (hown 3 (by omega)) k).1
  have KP := fun (part : Nat) (hp : part < 4) W (hW : Off (b0 :: bs) w W) => spec_l8Part_at bM xss part W (FX W hW) hown hp
  have KA1 := fun W gA cA gB cB (hN : NetIn W b0 x bs) FA FB => spec_l8Add b0 gA cA gB cB x bs m (sgP xss 0) (sgP xss 1) W hN hx (by omega) hq0 a0 a1 FA FB
  have KA2 := fun W gA cA gB cB cs (hN : NetIn W b0 (sgX1 xss x) cs) hq FA FB => spec_l8Add b0 gA cA gB cB (sgX1 xss x) cs (m + 84) (sgP xss 2) (sgP xss 3) W hN hx1 (by omega) hq a2 a3 FA FB
  have KA3 := fun W gA cA gB cB cs (hN : NetIn W b0 (sgX2 xss x) cs) hq FA FB => spec_l8Add b0 gA cA gB cB (sgX2 xss x) cs (m + 84 + 84) (sgL xss x) (sgH xss x) W hN hx2 (by omega) hq hL (fun k h => (hH k h).1) FA FB
  have HX : Hid ((sgX1 xss x).xQuarrel.xSome = true → sgX xss x = sgX1 xss x) := sgX_1
  have HX2 : Hid ((sgX1 xss x).xQuarrel.xSome = false → (sgX2 xss x).xQuarrel.xSome = true → sgX xss x = sgX2 xss x) := sgX_2
  have HX3 : Hid ((sgX1 xss x).xQuarrel.xSome = false → (sgX2 xss x).xQuarrel.xSome = false → sgX xss x = sgX3 xss x) := sgX_3
  have e1 : adR (sgP xss 0) (sgP xss 1) x = sgX1 xss x := rfl
  have e2 : adR (sgP xss 2) (sgP xss 3) (sgX1 xss x) = sgX2 xss x := rfl
  have e3 : adR (sgL xss x) (sgH xss x) (sgX2 xss x) = sgX3 xss x := rfl
  have s1 : adS (sgP xss 0) (sgP xss 1) x = sgL xss x := rfl
  have s2 : adS (sgP xss 2) (sgP xss 3) (sgX1 xss x) = sgH xss x := rfl
  have s3 : adS (sgL xss x) (sgH xss x) (sgX2 xss x) 7 = sgF xss x := rfl
  rw [e1, s1] at KA1
  rw [e2, s2] at KA2
  rw [e3] at KA3
  clear e1 e2 e3 s1 s2 hx hx1 hx2 hx3 hL hH a0 a1 a2 a3 hq0 hown FX
  have lN := N.lt
  have lNs := N.lts
  have Y0 := Blk.new w 36 #[.int .i64 0, .slice none 0 0]
  have B0 : Below w.heap.size w (w.alloc (.cells #[.int .i64 0, .slice none 0 0] 36)) := (by repeat (first | exact Below.refl _ _ | refine Below.drew ?_ | refine below_drewN ?_ _ | refine Below.setCell ?_ (by first | omega | (simp; done) | (simp; omega)) _ | refine Below.alloc ?_ (by first | omega | (simp; done) | (simp; omega)) _))
  have N0 := N.keep B0
  have z0 : Hid ((w.alloc (.cells #[.int .i64 0, .slice none 0 0] 36)).heap.size = w.heap.size + 1) := by show _ = _; simp
  go_enter Tryz.func62, Tryz.ntmps62
  go_wp2_with fail
  generalize w.alloc (.cells #[.int .i64 0, .slice none 0 0] 36) = w0 at *
  clear N
  refine (KP 0 (by omega) _ (Off.ofBelow B0)).mono ?_
  rintro e w1 ⟨g0, c0, b0s, rfl, hb0, hq1, FA0⟩
  have B1 := B0.trans (hq1.mono B0.size)
  have N1 := N0.keep hq1
  have Y1 := Y0.keep hq1
  go_wp2_with fail
  refine (KP 1 (by omega) _ (Off.ofBelow B1)).mono ?_
  rintro e w2 ⟨g1, c1, b1s, rfl, hb1, hq2, FA1⟩
  have B2 := B1.trans (hq2.mono B1.size)
  have N2 := N1.keep hq2
  have Y2 := Y1.keep hq2
  have z0' := z0.out
  have z1 := hq1.size
  have z2 := hq2.size
  have nh : ∀ y, w.heap.size ≤ y → y ∉ b0 :: bs := fun y hy hm => by rcases List.mem_cons.1 hm with h | h; omega; (have := lNs _ h; omega)
  go_wp2_with fail
  refine (KA1 _ g0 c0 g1 c1 N2 (fun k hk => by obtain ⟨u, hu⟩ := FA0 k hk; exact ⟨u, fun W hW => hu W (b0 :: bs) ((Off.ofBelow hq2).trans hW) (fun y hy => nh y (by have := hb0 y hy; omega))⟩) (fun k hk => by obtain ⟨u, hu⟩ := FA1 k hk; exact ⟨u, fun W hW => hu W (b0 :: bs) hW (fun y hy => nh y (by have := hb1 y hy; omega))⟩)).mono ?_
  rintro e w3 ⟨v1, cs1, rfl, N3, hcs1, O3, hL3⟩
  have P3 : Off (b0 :: bs) w w3 := (Off.ofBelow B2).trans O3
  have Y3 := Y2.off O3 (nh _ (by omega))
  have hcw1 : ∀ y ∈ cs1, y ∈ bs ∨ w.heap.size + 1 ≤ y := fun y hy => by rcases hcs1 y hy with h | h; (exact .inl h); (right; omega)
  have z3 := O3.size
  clear KA1 FA0 FA1 hb0 hb1 hq1 hq2 B0 B1 N0 N1 N2 Y0 Y1 Y2 z0 O3
  cases hs1 : (sgX1 xss x).xQuarrel.xSome
  · obtain ⟨gL, cL, uL, biL, rfl, OL, hLc⟩ := hL3 hs1
    clear hL3 HX
    have lL := OL.lts
    have gLo := OL.2.2.2
    go_wp2_with fail
    refine (KP 2 (by omega) _ P3).mono ?_
    rintro e w4 ⟨g2, c2, b2s, rfl, hb2, hq4, FA2⟩
    have z4 := hq4.size
    go_wp2_with fail
    refine (KP 3 (by omega) _ (P3.trans (Off.ofBelow hq4))).mono ?_
    rintro e w5 ⟨g3, c3, b3s, rfl, hb3, hq5, FA3⟩
    have z5 := hq5.size
    have b35 : Below w3.heap.size w3 w5 := hq4.trans (hq5.mono z4)
    have N5 := N3.keep b35
    have Y5 := Y3.keep b35
    have l3s := N3.lts
    have l3n := N3.lt
    have nh2 : ∀ y, w3.heap.size ≤ y → y ∉ b0 :: cs1 := fun y hy hm => by rcases List.mem_cons.1 hm with h | h; omega; (have := l3s _ h; omega)
    go_wp2_with fail
    refine (KA2 _ g2 c2 g3 c3 cs1 N5 hs1 (fun k hk => by obtain ⟨u, hu⟩ := FA2 k hk; exact ⟨u, fun W hW => hu W (b0 :: cs1) ((Off.ofBelow hq5).trans hW) (fun y hy => nh2 y (by have := hb2 y hy; omega))⟩) (fun k hk => by obtain ⟨u, hu⟩ := FA3 k hk; exact ⟨u, fun W hW => hu W (b0 :: cs1) hW (fun y hy => nh2 y (by have := hb3 y hy; omega))⟩)).mono ?_
    rintro e w6 ⟨v2, cs2, rfl, N6, hcs2, O6, hH6⟩
    have O36 : Off (b0 :: cs1) w3 w6 := (Off.ofBelow b35).trans O6
    have P6 : Off (b0 :: bs) w w6 := P3.mix O36 (fun y hy => by rcases List.mem_cons.1 hy with h | h; (left; rw [h]; simp); (rcases hcw1 y h with h2 | h2; (left; simp [h2]); (right; omega)))
    have nY1 : w.heap.size ∉ b0 :: cs1 := fun hm => by rcases List.mem_cons.1 hm with h | h; omega; (rcases hcw1 _ h with h2 | h2; (have := lNs _ h2; omega); omega)
    have Y6 := Y5.off O6 nY1
    have z6 := O6.size
    have hcw2 : ∀ y ∈ cs2, y ∈ bs ∨ w.heap.size + 1 ≤ y := fun y hy => by rcases hcs2 y hy with h | h; (exact hcw1 y h); (right; omega)
    have HLn : Hid (∀ y ∈ gL :: biL.flatten, w.heap.size + 1 ≤ y ∧ y ∉ b0 :: cs1 ∧ y ∉ b0 :: cs2 ∧ y < w3.heap.size) := fun y hy => by
      have h1 := gLo y hy
      have h2 := lL y hy
      have h3 := hLc y hy
      refine ⟨by omega, fun hm => ?_, fun hm => ?_, h2⟩
      · rcases List.mem_cons.1 hm with h | h
        · omega
        · exact h3 h
      · rcases List.mem_cons.1 hm with h | h
        · omega
        · rcases hcs2 y h with h4 | h4
          · exact h3 h4
          · omega
    have OL6 := OL.off O36 (fun y hy => (HLn.out y hy).2.1)
    clear KP KA2 FA2 FA3 hb2 hb3 hq4 hq5 b35 N3 N5 Y3 Y5 O6 O36 OL nh2 hLc gLo lL
    cases hs2 : (sgX2 xss x).xQuarrel.xSome
    · obtain ⟨gH, cH, uH, biH, rfl, OH, hHc⟩ := hH6 hs2
      clear hH6 HX2
      have lH := OH.lts
      have gHo := OH.2.2.2
      have HHn : Hid (∀ y ∈ gH :: biH.flatten, y ∉ b0 :: cs2) := fun y hy hm => by
        have h1 := gHo y hy
        rcases List.mem_cons.1 hm with h | h
        · omega
        · exact hHc y hy h
      have e3 := HX3.out hs1 hs2
      go_wp2_with fail
      refine (KA3 _ gL cL gH cH cs2 N6 hs2 (fun k hk => by obtain ⟨u, hu⟩ := OL6.at k hk; exact ⟨u, fun W hW => hu W (b0 :: cs2) hW (fun y hy => (HLn.out y hy).2.2.1)⟩) (fun k hk => by obtain ⟨u, hu⟩ := OH.at k hk; exact ⟨u, fun W hW => hu W (b0 :: cs2) hW HHn.out⟩)).mono ?_
      rintro e w7 ⟨v3, cs3, rfl, N7, hcs3, O7, hF7⟩
      have Y7 := Y6.off O7 (fun hm => by rcases List.mem_cons.1 hm with h | h; omega; (rcases hcw2 _ h with h2 | h2; (have := lNs _ h2; omega); omega))
      have P7 : Off (b0 :: bs) w w7 := P6.mix O7 (fun y hy => by rcases List.mem_cons.1 hy with h | h; (left; rw [h]; simp); (rcases hcw2 y h with h2 | h2; (left; simp [h2]); (right; omega)))
      have hcw3 : ∀ y ∈ cs3, y ∈ bs ∨ w.heap.size + 1 ≤ y := fun y hy => by rcases hcs3 y hy with h | h; (exact hcw2 y h); (right; omega)
      have lY7 := Y7.lt
      clear KA3 OL6 OH O7 Y6 N6 HHn HLn HX3 hHc gHo lH P3 P6
      cases hs3 : (sgX3 xss x).xQuarrel.xSome
      · obtain ⟨gS, cS, uS, biS, rfl, OS, hSc⟩ := hF7 hs3
        obtain ⟨u, bm, k1, k2, hM, hbm⟩ := OS.own 7 (by omega)
        have gSo := OS.2.2.2
        change w7.cell? ⟨gS, 14, none⟩ = some (.int .i64 2) at k1
        change w7.cell? ⟨gS, 15, none⟩ = some u at k2
        change Mat w7 u (unflat (adS (sgL xss x) (sgH xss x) (sgX2 xss x) 7)) bm at hM
        rw [s3] at hM
        obtain ⟨pu, cu, rfl⟩ := hM.value
        change Mat w7 (.slice pu 4 cu) (unflat (sgF xss x)) bm at hM
        change w7.cell? ⟨gS, 15, none⟩ = some (.slice pu 4 cu) at k2
        have hbm2 : ∀ y ∈ bm, w.heap.size + 1 ≤ y ∧ y ∉ cs3 := fun y hy => ⟨by have := gSo y (hbm y hy).1; omega, hSc y (hbm y hy).1⟩
        have HXX : Hid (sgX xss x = sgX3 xss x ∧ (sgX3 xss x).xQuarrel.xSome = false) := ⟨e3, hs3⟩
        clear OS hF7 hSc gSo hbm s3 e3
        go_wp2_with (refine wpList_store_blk rfl 36 _ _ rfl w.heap.size #[.int .i64 2, .slice pu 4 cu] rfl rfl Y7 rfl (by kernel_rfl) (by kernel_rfl) ?_; intro w20 Y20 O20)
        have ya := Y20.at.1
        try go_wp2
        try rw [Exit.noGoto_ret]
        exact bodyPost_ret (v := .tuple #[.agg #[.int .i64 2, .slice pu 4 cu], .bool true]) (by simp [results, Tryz.results62, go_sem, ya]) rfl (by rw [HXX.out.1, HXX.out.2, mOf_on]; exact ⟨cs3, pu, cu, bm, rfl, hM.off O20 (fun y hy hm => by have := (hbm2 y hy).1; simp at hm; omega), fun y hy => ⟨by have := (hbm2 y hy).1; omega, (hbm2 y hy).2⟩, N7.off O20 (by simp; omega) (fun y hy hm => by simp at hm; rcases hcw3 y hy with h | h; (have := lNs _ h; omega); omega), fun y hy => by rcases hcw3 y hy with h | h; (exact .inl h); (right; omega), P7.mix O20 (fun y hy => by simp at hy; right; omega)⟩)
      · have HXX : Hid (sgX xss x = sgX3 xss x ∧ (sgX3 xss x).xQuarrel.xSome = true) := ⟨e3, hs3⟩
        clear hF7 s3 e3
        go_wp2_with (refine wpList_store_blk rfl 36 _ _ rfl w.heap.size #[.int .i64 0, .slice none 0 0] rfl rfl Y7 rfl (by kernel_rfl) (by kernel_rfl) ?_; intro w20 Y20 O20)
        have ya := Y20.at.1
        try go_wp2
        try rw [Exit.noGoto_ret]
        exact bodyPost_ret (v := .tuple #[.agg #[.int .i64 0, .slice none 0 0], .bool false]) (by simp [results, Tryz.results62, go_sem, ya]) rfl (by rw [HXX.out.1, HXX.out.2, mOf_stop]; exact ⟨cs3, none, 0, [], rfl, Mat.nil _, (fun y hy => by cases hy), N7.off O20 (by simp; omega) (fun y hy hm => by simp at hm; rcases hcw3 y hy with h | h; (have := lNs _ h; omega); omega), fun y hy => by rcases hcw3 y hy with h | h; (exact .inl h); (right; omega), P7.mix O20 (fun y hy => by simp at hy; right; omega)⟩)
    · have HXX : Hid (sgX xss x = sgX2 xss x ∧ (sgX2 xss x).xQuarrel.xSome = true) := ⟨HX2.out hs1 hs2, hs2⟩
      have lY6 := Y6.lt
      clear hH6 s3 HX2 HX3 KA3 OL6 HLn
      go_wp2_with (refine wpList_store_blk rfl 36 _ _ rfl w.heap.size #[.int .i64 0, .slice none 0 0] rfl rfl Y6 rfl (by kernel_rfl) (by kernel_rfl) ?_; intro w20 Y20 O20)
      have ya := Y20.at.1
      try go_wp2
      try rw [Exit.noGoto_ret]
      exact bodyPost_ret (v := .tuple #[.agg #[.int .i64 0, .slice none 0 0], .bool false]) (by simp [results, Tryz.results62, go_sem, ya]) rfl (by rw [HXX.out.1, HXX.out.2, mOf_stop]; exact ⟨cs2, none, 0, [], rfl, Mat.nil _, (fun y hy => by cases hy), N6.off O20 (by simp; omega) (fun y hy hm => by simp at hm; rcases hcw2 y hy with h | h; (have := lNs _ h; omega); omega), fun y hy => by rcases hcw2 y hy with h | h; (exact .inl h); (right; omega), P6.mix O20 (fun y hy => by simp at hy; right; omega)⟩)
  · have HXX : Hid (sgX xss x = sgX1 xss x ∧ (sgX1 xss x).xQuarrel.xSome = true) := ⟨HX.out hs1, hs1⟩
    have lY3 := Y3.lt
    clear hL3 s3 HX HX2 HX3 KA3 KA2 KP
    go_wp2_with (refine wpList_store_blk rfl 36 _ _ rfl w.heap.size #[.int .i64 0, .slice none 0 0] rfl rfl Y3 rfl (by kernel_rfl) (by kernel_rfl) ?_; intro w20 Y20 O20)
    have ya := Y20.at.1
    try go_wp2
    try rw [Exit.noGoto_ret]
    exact bodyPost_ret (v := .tuple #[.agg #[.int .i64 0, .slice none 0 0], .bool false]) (by simp [results, Tryz.results62, go_sem, ya]) rfl (by rw [HXX.out.1, HXX.out.2, mOf_stop]; exact ⟨cs1, none, 0, [], rfl, Mat.nil _, (fun y hy => by cases hy), N3.off O20 (by simp; omega) (fun y hy hm => by simp at hm; rcases hcw1 y hy with h | h; (have := lNs _ h; omega); omega), fun y hy => by rcases hcw1 y hy with h | h; (exact .inl h); (right; omega), P3.mix O20 (fun y hy => by simp at hy; right; omega)⟩)
end Go.Proofs.YtepobckhfodngaoGreat
