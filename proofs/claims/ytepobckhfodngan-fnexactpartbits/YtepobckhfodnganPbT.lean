/-
  Bits of one part, in the model: PartBits; what is answered is small.
-/
import Derived.Test.YtepobckhfodnganPbS
namespace Go.Proofs.Ytepobckhfodngan
open Go.ChangeShapes Go.WideShapes Go.ChangeAt Go.RowKit
set_option linter.unusedVariables false

set_option maxHeartbeats 4000000 in
set_option maxRecDepth 100000 in
theorem spec_PartBits (v : Value) (x : MMirror) (part : Int) (w : World) (hv : RdMirror w v x) :
    Calls Try.prog 7 #[v, .int .i64 part] w fun e w' => ∃ u b0, e = .returned u ∧ OwManyBits w' u (pbR x part) b0 ∧ (∀ y ∈ b0, w.heap.size ≤ y) ∧ Below w.heap.size w w' := by
  obtain ⟨pa, ca, rfl, ga⟩ := hv
  have B0 : Below w.heap.size w ((w.alloc (.cells #[.int .i64 x.xQ, .slice pa x.xViews.length ca] 30)).alloc (.cells #[.int .i64 0, .slice none 0 0] 28)) := (by repeat (first | exact Below.refl _ _ | refine Below.drew ?_ | refine below_drewN ?_ _ | refine Below.setCell ?_ (by first | omega | (simp; done) | (simp; omega)) _ | refine Below.alloc ?_ (by first | omega | (simp; done) | (simp; omega)) _))
  have X0 : Blk ((w.alloc (.cells #[.int .i64 x.xQ, .slice pa x.xViews.length ca] 30)).alloc (.cells #[.int .i64 0, .slice none 0 0] 28)) w.heap.size 30 #[.int .i64 x.xQ, .slice pa x.xViews.length ca] := (Blk.new w _ _).alloc _
  have R0 : Blk ((w.alloc (.cells #[.int .i64 x.xQ, .slice pa x.xViews.length ca] 30)).alloc (.cells #[.int .i64 0, .slice none 0 0] 28)) (w.heap.size + 1) 28 #[.int .i64 0, .slice none 0 0] := by simpa using Blk.new (w.alloc (.cells #[.int .i64 x.xQ, .slice pa x.xViews.length ca] 30)) 28 #[.int .i64 0, .slice none 0 0]
  have KF := spec_l3Fault w.heap.size x.xQ (.slice pa x.xViews.length ca) x.xViews _ X0 (ga.below B0)
  by_cases h1 : mirC x.xQ x.xViews = 0
  · rw [h1] at KF
    by_cases h2 : x.xQ = 256
    · have e256 : (x.xQ != 256) = false := by simp [h2]
      by_cases h3 : 0 ≤ part ∧ part ≤ 3
      · obtain ⟨k, rfl⟩ : ∃ k : Nat, part = k := ⟨part.toNat, by omega⟩
        rw [pbR_ok (pbC_ok h1 h2 h3)]
        obtain ⟨-, m1, m2, m3, m4⟩ := mirC_zero h1
        have hbd : ∀ i j, 0 ≤ pt x.xViews i j ∧ pt x.xViews i j < 256 := fun i j => by have := m3 i j; rw [h2] at this; exact this
        have hk : k < 4 := by omega
        have KP := fun W => spec_l2Party_yes (k : Int) W h3
        have KL := fun W b (hF : Four W b 256 x.xViews) => spec_l8Part b x.xViews k W hF m4 hk
        have HFR : Hid (∀ W, Blk W w.heap.size 30 #[.int .i64 x.xQ, .slice pa x.xViews.length ca] → Below w.heap.size w W → Four W w.heap.size 256 x.xViews) := fun W hX hB => ⟨_, by rw [h2] at hX; exact hX, ga.below hB, m1, m2, hbd⟩
        have hpl := pbL_len x.xViews k
        have HPL : Hid ((pbL x.xViews k).length = 8) := hpl
        clear h1 h2 h3 m1 m2 m3 m4 hbd hk ga hpl
        generalize pbL x.xViews k = ms at *
        go_enter Try.func7, Try.ntmps7
        go_wp2_with fail
        refine KF.mono ?_
        rintro e w1 ⟨rfl, hb1⟩
        have X1 := X0.keep hb1
        have R1 := R0.keep hb1
        have B1 := B0.trans (hb1.mono B0.size)
        clear X0 R0 B0 hb1 KF
        have xq := X1.at.1
        have xl := X1.lt
        go_wp2_with fail
        clear xq xl
        refine (KP _).mono ?_
        rintro e w2 ⟨rfl, rfl⟩
        go_wp2_with fail
        refine (KL _ _ (HFR.out _ X1 B1)).mono ?_
        rintro e w5 ⟨u, bs, rfl, hM, hbs, hb5⟩
        have R5 := R1.keep hb5
        have lR := R1.lt
        have hbs2 : ∀ y ∈ bs, w.heap.size + 1 < y := fun y hy => by have := hbs y hy; omega
        have B5 := B1.trans (hb5.mono B1.size)
        clear X1 R1 B1 hb5 KL KP HFR hbs
        obtain ⟨pm, cm, hu⟩ := hM.value
        rw [HPL.out] at hu
        subst hu
        go_wp2_with (refine wpList_store_blk rfl 28 _ _ rfl (w.heap.size + 1) #[.int .i64 0, .slice pm 8 cm] rfl rfl R5 rfl (by kernel_rfl) (by kernel_rfl) ?_; intro w9 R9 O9)
        exact bodyPost_ret (v := .agg #[.int .i64 0, .slice pm 8 cm]) (results_blk Try.results7 rfl R9 Try.underlying28 rfl (by kernel_rfl)) rfl ⟨_, bs, rfl, ⟨pm, cm, by show _ = Value.agg #[.int .i64 0, .slice pm ms.length cm]; rw [HPL.out], by show OwMirrorS _ (.slice pm ms.length cm) ms bs; rw [HPL.out]; exact hM.off O9 (fun y hy hm => by have := hbs2 y hy; simp at hm; omega)⟩, (fun y hy => by have := hbs2 y hy; omega), B5.trans (O9.toBelow B5.size (by simp))⟩
      · rw [pbR_bad (pbC_part h1 h2 h3) (by decide)]
        have KP := fun W => spec_l2Party_no part W (by omega)
        clear h1 h2 h3 ga
        go_enter Try.func7, Try.ntmps7
        go_wp2_with fail
        refine KF.mono ?_
        rintro e w1 ⟨rfl, hb1⟩
        have X1 := X0.keep hb1
        have R1 := R0.keep hb1
        have B1 := B0.trans (hb1.mono B0.size)
        clear X0 R0 B0 hb1 KF
        have xq := X1.at.1
        have xl := X1.lt
        go_wp2_with fail
        clear xq xl
        refine (KP _).mono ?_
        rintro e w2 ⟨rfl, rfl⟩
        clear KP X1
        go_wp2_with (refine wpList_store_blk rfl 28 _ _ rfl (w.heap.size + 1) #[.int .i64 3, .slice none 0 0] rfl rfl R1 rfl (by kernel_rfl) (by kernel_rfl) ?_; intro w9 R9 O9)
        exact bodyPost_ret (v := .agg #[.int .i64 3, .slice none 0 0]) (results_blk Try.results7 rfl R9 Try.underlying28 rfl (by kernel_rfl)) rfl ⟨_, [], rfl, ⟨none, 0, rfl, OwMirrorS.nil _⟩, (fun y hy => by cases hy), B1.trans (O9.toBelow B1.size (by simp))⟩
    · have e256 : (x.xQ != 256) = true := by simpa using h2
      rw [pbR_bad (pbC_q h1 h2) (by decide)]
      clear h1 h2 ga
      go_enter Try.func7, Try.ntmps7
      go_wp2_with fail
      refine KF.mono ?_
      rintro e w1 ⟨rfl, hb1⟩
      have X1 := X0.keep hb1
      have R1 := R0.keep hb1
      have B1 := B0.trans (hb1.mono B0.size)
      clear X0 R0 B0 hb1 KF
      have xq := X1.at.1
      have xl := X1.lt
      go_wp2_with (refine wpList_store_blk rfl 28 _ _ rfl (w.heap.size + 1) #[.int .i64 1, .slice none 0 0] rfl rfl R1 rfl (by kernel_rfl) (by kernel_rfl) ?_; intro w9 R9 O9)
      exact bodyPost_ret (v := .agg #[.int .i64 1, .slice none 0 0]) (results_blk Try.results7 rfl R9 Try.underlying28 rfl (by kernel_rfl)) rfl ⟨_, [], rfl, ⟨none, 0, rfl, OwMirrorS.nil _⟩, (fun y hy => by cases hy), B1.trans (O9.toBelow B1.size (by simp))⟩
  · rw [pbR_bad (pbC_mir h1) h1]
    have hne : (mirC x.xQ x.xViews != 0) = true := by simpa using h1
    generalize mirC x.xQ x.xViews = r at *
    clear h1 ga
    go_enter Try.func7, Try.ntmps7
    go_wp2_with fail
    refine KF.mono ?_
    rintro e w1 ⟨rfl, hb1⟩
    have X1 := X0.keep hb1
    have R1 := R0.keep hb1
    have B1 := B0.trans (hb1.mono B0.size)
    clear X0 R0 B0 hb1 KF
    clear X1
    go_wp2_with (refine wpList_store_blk rfl 28 _ _ rfl (w.heap.size + 1) #[.int .i64 r, .slice none 0 0] rfl rfl R1 rfl (by kernel_rfl) (by kernel_rfl) ?_; intro w9 R9 O9)
    exact bodyPost_ret (v := .agg #[.int .i64 r, .slice none 0 0]) (results_blk Try.results7 rfl R9 Try.underlying28 rfl (by kernel_rfl)) rfl ⟨_, [], rfl, ⟨none, 0, rfl, OwMirrorS.nil _⟩, (fun y hy => by cases hy), B1.trans (O9.toBelow B1.size (by simp))⟩
theorem pbR_cnt (x : MMirror) (part : Int) : cntManyBits (pbR x part) ≤ 268435456 := by
  by_cases h : pbC x part = 0
  · unfold pbR
    rw [if_pos h]
    show cntMirrorS ((List.range 8).map (shM (bpF x.xViews part.toNat))) ≤ 268435456
    have : cntMirrorS ((List.range 8).map (shM (bpF x.xViews part.toNat))) = 136 := rfl
    omega
  · unfold pbR
    rw [if_neg h]
    show cntMirrorS [] ≤ _
    have : cntMirrorS [] = 0 := rfl
    omega
end Go.Proofs.Ytepobckhfodngan
