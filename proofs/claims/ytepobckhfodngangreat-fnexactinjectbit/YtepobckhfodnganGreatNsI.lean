/-
  A bit as a number, in the program: inject.
-/
import Derived.Test.YtepobckhfodnganGreatNsB
namespace Go.Proofs.YtepobckhfodnganGreat
open Go.ChangeShapes Go.WideShapes Go.ChangeAt Go.RowKit
set_option linter.unusedVariables false
def z17 : List Int := List.replicate 17 0
def injP0 (fs : List Int) : Nat → List Int := fun j => if j = 1 then 2 :: fs else z17
def ijP (fs : List Int) (x : MNet) : Nat → Nat → List Int
  | 0 => injP0 fs
  | 1 => updP (injP0 fs) 2 (256 :: ijA fs x)
  | 2 => updP (updP (injP0 fs) 2 (256 :: ijA fs x)) 3 (256 :: ijB fs x)
  | _ => updP (updP (updP (injP0 fs) 2 (256 :: ijA fs x)) 3 (256 :: ijB fs x)) 4 (256 :: ijF fs x)
def ijN (fs : List Int) (x : MNet) : Nat → MNet
  | 0 => x
  | 1 => ijX1 fs x
  | 2 => ijX2 fs x
  | _ => ijX3 fs x
theorem ij_end {fs : List Int} {x : MNet} {j : Nat} (hj : j ≤ 3) (h0 : x.xQuarrel.xSome = false) (h : (ijN fs x j).xQuarrel.xSome = true ∨ j = 3) (hk : ∀ k, k < j → (ijN fs x k).xQuarrel.xSome = false) :
    ijX fs x = ijN fs x j ∧ ∃ q0 gs, ijP fs x j 4 = q0 :: gs ∧ gs.length = 16 ∧ ((ijX fs x).xQuarrel.xSome = false → q0 = 256 ∧ gs = ijF fs x) := by
  have hz : z17 = 0 :: List.replicate 16 0 := rfl
  have hA : ∀ k, ∃ q0 gs, injP0 fs (k + 4) = q0 :: gs ∧ gs.length = 16 := fun k => ⟨0, List.replicate 16 0, by unfold injP0; rw [if_neg (by omega)]; rfl, by simp⟩
  obtain rfl | rfl | rfl | rfl : j = 0 ∨ j = 1 ∨ j = 2 ∨ j = 3 := by omega
  · rcases h with h | h
    · exact absurd (show x.xQuarrel.xSome = true from h) (by rw [h0]; decide)
    · omega
  · have h1 : (ijX1 fs x).xQuarrel.xSome = true := by rcases h with h | h; exact h; omega
    have e := ijX_1 h1
    exact ⟨e, 0, List.replicate 16 0, rfl, by simp, fun hf => by rw [e, h1] at hf; cases hf⟩
  · have h2 : (ijX2 fs x).xQuarrel.xSome = true := by rcases h with h | h; exact h; omega
    have e := ijX_2 (hk 1 (by omega)) h2
    exact ⟨e, 0, List.replicate 16 0, rfl, by simp, fun hf => by rw [e, h2] at hf; cases hf⟩
  · have e := ijX_3 (hk 1 (by omega)) (hk 2 (by omega))
    exact ⟨e, 256, ijF fs x, rfl, (xrF_ok _ _ _).1, fun _ => ⟨rfl, rfl⟩⟩
theorem sheet_build1 {fs : List Int} (h : fs.length = 16) (w : World) : (Instr.build 131 #[(1, .agg (cells1 (2 :: fs)))]).run Tryz.prog w = .ok (.agg (cells1 (shL (injP0 fs)))) w := by
  obtain ⟨a0, a1, a2, a3, b0, b1, b2, b3, c0, c1, c2, c3, d0, d1, d2, d3, rfl⟩ := lit16 h
  kernel_rfl
theorem zero_sheet (w : World) : (zeroValue 131).run Tryz.prog w = .ok (.agg #[.int .i64 0, .int .i64 0, .int .i64 0, .int .i64 0, .int .i64 0, .int .i64 0, .int .i64 0, .int .i64 0, .int .i64 0, .int .i64 0, .int .i64 0, .int .i64 0, .int .i64 0, .int .i64 0, .int .i64 0, .int .i64 0, .int .i64 0, .int .i64 0, .int .i64 0, .int .i64 0, .int .i64 0, .int .i64 0, .int .i64 0, .int .i64 0, .int .i64 0, .int .i64 0, .int .i64 0, .int .i64 0, .int .i64 0, .int .i64 0, .int .i64 0, .int .i64 0, .int .i64 0, .int .i64 0, .int .i64 0, .int .i64 0, .int .i64 0, .int .i64 0, .int .i64 0, .int .i64 0, .int .i64 0, .int .i64 0, .int .i64 0, .int .i64 0, .int .i64 0, .int .i64 0, .int .i64 0, .int .i64 0, .int .i64 0, .int .i64 0, .int .i64 0, .int .i64 0, .int .i64 0, .int .i64 0, .int .i64 0, .int .i64 0, .int .i64 0, .int .i64 0, .int .i64 0, .int .i64 0, .int .i64 0, .int .i64 0, .int .i64 0, .int .i64 0, .int .i64 0, .int .i64 0, .int .i64 0, .int .i64 0, .int .i64 0, .int .i64 0, .int .i64 0, .int .i64 0, .int .i64 0, .int .i64 0, .int .i64 0, .int .i64 0, .int .i64 0, .int .i64 0, .int .i64 0, .int .i64 0, .int .i64 0, .int .i64 0, .int .i64 0, .int .i64 0, .int .i64 0, .int .i64 0, .int .i64 0, .int .i64 0, .int .i64 0, .int .i64 0, .int .i64 0, .int .i64 0, .int .i64 0, .int .i64 0, .int .i64 0, .int .i64 0, .int .i64 0, .int .i64 0, .int .i64 0, .int .i64 0, .int .i64 0, .int .i64 0]) w := by kernel_rfl
set_option maxHeartbeats 8000000 in
set_option maxRecDepth 100000 in
theorem impl_inject (fs : List Int) (b0 : Nat) (x : MNet) (bs : List Nat) (m : Nat) (w : World) (N : NetIn w b0 x bs) (B : NetB m x) (hm : m ≤ 199900) (hq0 : x.xQuarrel.xSome = false) (hl : fs.length = 16) (hb : ∀ j, 0 ≤ fs.getD j 0 ∧ fs.getD j 0 < 256) :
    Calls Tryz.prog 68 #[.pointer (some ⟨b0, 0, none⟩), .agg (cells1 (2 :: fs))] w fun e w' => ∃ q0 gs cs, e = .returned (.agg (cells1 (q0 :: gs))) ∧ gs.length = 16 ∧ ((ijX fs x).xQuarrel.xSome = false → q0 = 256 ∧ gs = ijF fs x) ∧ NetIn w' b0 (ijX fs x) cs ∧ (∀ y ∈ cs, y ∈ bs ∨ w.heap.size ≤ y) ∧ Off (b0 :: bs) w w' := by
  obtain ⟨B1, B2, B3⟩ := ijX_B fs B
  have hoA : Ok16 256 (ijA fs x) := xrF_ok _ _ _
  have hoB : Ok16 256 (ijB fs x) := xrF_ok _ _ _
  have K0 := fun gS => (fun hq W cs hN hG hn => impl_lowStep b0 gS x cs m (injP0 fs) fs W hN B (by omega) hG rfl hl hb hn : StepOk 91 b0 gS (ijN fs x 0) (ijN fs x 1) (ijP fs x 0) (ijP fs x 1))
  have K1 := fun gS => (fun hq W cs hN hG hn => impl_highStep b0 gS (ijX1 fs x) cs (m + 12) (updP (injP0 fs) 2 (256 :: ijA fs x)) fs W hN B1 (by omega) hG rfl hl hb hn : StepOk 92 b0 gS (ijN fs x 1) (ijN fs x 2) (ijP fs x 1) (ijP fs x 2))
  have K2 := fun gS => (fun hq W cs hN hG hn => impl_belowStep b0 gS (ijX2 fs x) cs (m + 12 + 12) (updP (updP (injP0 fs) 2 (256 :: ijA fs x)) 3 (256 :: ijB fs x)) (ijA fs x) (ijB fs x) W hN B2 (by omega) hG rfl rfl hoA hoB hn : StepOk 93 b0 gS (ijN fs x 2) (ijN fs x 3) (ijP fs x 2) (ijP fs x 3))
  have KF := fun gS gF cF W (hN : NetIn W b0 x bs) hG hn hnF lF c0 c1 c2 => impl_follow_inject (ijN fs x) (ijP fs x) b0 gS gF cF bs W hN hG hn hnF lF c0 c1 c2 (K0 gS) (K1 gS) (K2 gS)
  have HEN : Hid (∀ j, j ≤ 3 → ((ijN fs x j).xQuarrel.xSome = true ∨ j = 3) → (∀ k, k < j → (ijN fs x k).xQuarrel.xSome = false) → ijX fs x = ijN fs x j ∧ ∃ q0 gs, ijP fs x j 4 = q0 :: gs ∧ gs.length = 16 ∧ ((ijX fs x).xQuarrel.xSome = false → q0 = 256 ∧ gs = ijF fs x)) := fun j hj h hk => ij_end hj hq0 h hk
  have HLQ : Hid (((2 : Int) :: fs).length = 17) := by show _ = _; rw [List.length_cons, hl]
  have HL : Hid (fs.length = 16) := hl
  change ∀ gS gF cF W, NetIn W b0 x bs → Blk W gS 131 (cells1 (shL (injP0 fs))) → _ at KF
  have HP0 : Hid ((shL (injP0 fs)).length = 102) := shL_len _
  clear K0 K1 K2 B B1 B2 B3 hoA hoB hq0 hb hl
  generalize ijN fs x = XX at *
  generalize ijP fs x = PP at *
  have lN := N.lt
  have lNs := N.lts
  have S0 : Blk ((w.alloc (.cells (cells1 (2 :: fs)) 87)).alloc (.cells #[.int .i64 0, .int .i64 0, .int .i64 0, .int .i64 0, .int .i64 0, .int .i64 0, .int .i64 0, .int .i64 0, .int .i64 0, .int .i64 0, .int .i64 0, .int .i64 0, .int .i64 0, .int .i64 0, .int .i64 0, .int .i64 0, .int .i64 0] 87)) w.heap.size 87 (cells1 (2 :: fs)) := (Blk.new w _ _).alloc _
  have R0 : Blk ((w.alloc (.cells (cells1 (2 :: fs)) 87)).alloc (.cells #[.int .i64 0, .int .i64 0, .int .i64 0, .int .i64 0, .int .i64 0, .int .i64 0, .int .i64 0, .int .i64 0, .int .i64 0, .int .i64 0, .int .i64 0, .int .i64 0, .int .i64 0, .int .i64 0, .int .i64 0, .int .i64 0, .int .i64 0] 87)) (w.heap.size + 1) 87 #[.int .i64 0, .int .i64 0, .int .i64 0, .int .i64 0, .int .i64 0, .int .i64 0, .int .i64 0, .int .i64 0, .int .i64 0, .int .i64 0, .int .i64 0, .int .i64 0, .int .i64 0, .int .i64 0, .int .i64 0, .int .i64 0, .int .i64 0] := by simpa using Blk.new (w.alloc (.cells (cells1 (2 :: fs)) 87)) 87 #[.int .i64 0, .int .i64 0, .int .i64 0, .int .i64 0, .int .i64 0, .int .i64 0, .int .i64 0, .int .i64 0, .int .i64 0, .int .i64 0, .int .i64 0, .int .i64 0, .int .i64 0, .int .i64 0, .int .i64 0, .int .i64 0, .int .i64 0]
  have B0 : Below w.heap.size w ((w.alloc (.cells (cells1 (2 :: fs)) 87)).alloc (.cells #[.int .i64 0, .int .i64 0, .int .i64 0, .int .i64 0, .int .i64 0, .int .i64 0, .int .i64 0, .int .i64 0, .int .i64 0, .int .i64 0, .int .i64 0, .int .i64 0, .int .i64 0, .int .i64 0, .int .i64 0, .int .i64 0, .int .i64 0] 87)) := (by repeat (first | exact Below.refl _ _ | refine Below.drew ?_ | refine below_drewN ?_ _ | refine Below.setCell ?_ (by first | omega | (simp; done) | (simp; omega)) _ | refine Below.alloc ?_ (by first | omega | (simp; done) | (simp; omega)) _))
  have N0 := N.keep B0
  have z0 : Hid ((((w.alloc (.cells (cells1 (2 :: fs)) 87)).alloc (.cells #[.int .i64 0, .int .i64 0, .int .i64 0, .int .i64 0, .int .i64 0, .int .i64 0, .int .i64 0, .int .i64 0, .int .i64 0, .int .i64 0, .int .i64 0, .int .i64 0, .int .i64 0, .int .i64 0, .int .i64 0, .int .i64 0, .int .i64 0] 87))).heap.size = w.heap.size + 2) := by show _ = _; simp
  go_enter Tryz.func68, Tryz.ntmps68
  go_upto_region 1 with fail
  generalize ((w.alloc (.cells (cells1 (2 :: fs)) 87)).alloc (.cells #[.int .i64 0, .int .i64 0, .int .i64 0, .int .i64 0, .int .i64 0, .int .i64 0, .int .i64 0, .int .i64 0, .int .i64 0, .int .i64 0, .int .i64 0, .int .i64 0, .int .i64 0, .int .i64 0, .int .i64 0, .int .i64 0, .int .i64 0] 87)) = w2 at *
  clear N
  have A2 := Blk.new w2 129 #[.nilFunc, .nilFunc, .nilFunc]
  go_upto_region 2 with (refine wpList_store_blk rfl 129 _ _ rfl w2.heap.size #[.func (.func 91) #[] #[], .func (.func 92) #[] #[], .func (.func 93) #[] #[]] rfl rfl A2 rfl (by kernel_rfl) (by kernel_rfl) ?_; intro w3 A3 O3)
  have O3' : Off [w2.heap.size] w2 w3 := ((Off.refl _ _).alloc _).trans O3
  have zz := z0.out
  have S3 := S0.off O3' (by simp; omega)
  have R3 := R0.off O3' (by simp; omega)
  have N3 := N0.off O3' (by simp; omega) (fun y hy hm => by have := lNs y hy; simp at hm; omega)
  have B3 := B0.trans (O3'.toBelow B0.size (by simp; omega))
  have lA := A3.lt
  have hgF : w.heap.size + 2 ≤ w2.heap.size := by omega
  clear zz z0 A2 O3 O3' S0 R0 N0 B0
  generalize w2.heap.size = gF at *
  have Zn := Blk.new w3 131 #[.int .i64 0, .int .i64 0, .int .i64 0, .int .i64 0, .int .i64 0, .int .i64 0, .int .i64 0, .int .i64 0, .int .i64 0, .int .i64 0, .int .i64 0, .int .i64 0, .int .i64 0, .int .i64 0, .int .i64 0, .int .i64 0, .int .i64 0, .int .i64 0, .int .i64 0, .int .i64 0, .int .i64 0, .int .i64 0, .int .i64 0, .int .i64 0, .int .i64 0, .int .i64 0, .int .i64 0, .int .i64 0, .int .i64 0, .int .i64 0, .int .i64 0, .int .i64 0, .int .i64 0, .int .i64 0, .int .i64 0, .int .i64 0, .int .i64 0, .int .i64 0, .int .i64 0, .int .i64 0, .int .i64 0, .int .i64 0, .int .i64 0, .int .i64 0, .int .i64 0, .int .i64 0, .int .i64 0, .int .i64 0, .int .i64 0, .int .i64 0, .int .i64 0, .int .i64 0, .int .i64 0, .int .i64 0, .int .i64 0, .int .i64 0, .int .i64 0, .int .i64 0, .int .i64 0, .int .i64 0, .int .i64 0, .int .i64 0, .int .i64 0, .int .i64 0, .int .i64 0, .int .i64 0, .int .i64 0, .int .i64 0, .int .i64 0, .int .i64 0, .int .i64 0, .int .i64 0, .int .i64 0, .int .i64 0, .int .i64 0, .int .i64 0, .int .i64 0, .int .i64 0, .int .i64 0, .int .i64 0, .int .i64 0, .int .i64 0, .int .i64 0, .int .i64 0, .int .i64 0, .int .i64 0, .int .i64 0, .int .i64 0, .int .i64 0, .int .i64 0, .int .i64 0, .int .i64 0, .int .i64 0, .int .i64 0, .int .i64 0, .int .i64 0, .int .i64 0, .int .i64 0, .int .i64 0, .int .i64 0, .int .i64 0, .int .i64 0]
  have hz := zero_sheet
  go_upto_region 3 with (first | (refine wpList_load_blk rfl 87 _ rfl w.heap.size rfl S3 Tryz.underlying87 rfl (by rw [cells1_size, HLQ.out]; kernel_rfl) ?_) | (refine wpList_build rfl 131 _ rfl #[(1, .agg (cells1 (2 :: fs)))] (by kernel_rfl) (.agg (cells1 (shL (injP0 fs)))) (sheet_build1 HL.out _) ?_) | (refine wpList_store_blk rfl 131 _ _ rfl w3.heap.size (cells1 (shL (injP0 fs))) rfl rfl Zn (by rw [cells1_size, HP0.out]; rfl) (by rw [cells1_size, HP0.out]; kernel_rfl) (cells1_one _) ?_; intro w4 G4 O4))
  have O4' : Off [w3.heap.size] w3 w4 := ((Off.refl _ _).alloc _).trans O4
  have lR3 := R3.lt
  have R4 := R3.off O4' (by simp; omega)
  have A4 := A3.off O4' (by simp; omega)
  have N4 := N3.off O4' (by simp; omega) (fun y hy hm => by have := lNs y hy; simp at hm; omega)
  have B4 := B3.trans (O4'.toBelow B3.size (by simp; omega))
  have hgS : gF < w3.heap.size := lA
  have lG4 := G4.lt
  clear Zn O4 O4' S3 R3 A3 N3 B3 lA lR3 hz
  generalize w3.heap.size = gS at *
  have lA4 := A4.lt
  have hn : gS ∉ b0 :: bs := fun hm => by rcases List.mem_cons.1 hm with h | h; omega; (have := lNs _ h; omega)
  have hnF : gF ∉ b0 :: gS :: bs := fun hm => by rcases List.mem_cons.1 hm with h | h; omega; (rcases List.mem_cons.1 h with h | h; omega; (have := lNs _ h; omega))
  have K := KF gS gF 3 w4 N4 G4 hn hnF lA4 (A4.at.1 0) (A4.at.1 1) (A4.at.1 2)
  clear KF G4 A4
  go_wp2_with fail
  refine K.mono ?_
  rintro e w5 ⟨rfl, j, hj, hjq, cs, G5, N5, hcs, O5, hk⟩
  obtain ⟨eX, q0, gs, e4, hgl, hgq⟩ := HEN.out j hj hjq hk
  have nR : w.heap.size + 1 ∉ b0 :: gS :: bs := fun hm => by rcases List.mem_cons.1 hm with h | h; omega; (rcases List.mem_cons.1 h with h | h; omega; (have := lNs _ h; omega))
  have R5 := R4.off O5 nR
  have zB := B4.size
  have P5 : Off (b0 :: bs) w w5 := (Off.ofBelow B4).mix O5 (fun y hy => by rcases List.mem_cons.1 hy with h | h; (left; rw [h]; simp); (rcases List.mem_cons.1 h with h | h; (right; omega); (left; simp [h])))
  have HQL : Hid ((q0 :: gs).length = 17) := by show _ = _; rw [List.length_cons, hgl]
  have hr4 := shL_range G5 4 (by decide) (by rw [e4, HQL.out])
  rw [e4] at hr4
  have HXX : Hid (ijX fs x = XX j ∧ gs.length = 16 ∧ ((ijX fs x).xQuarrel.xSome = false → q0 = 256 ∧ gs = ijF fs x)) := ⟨eX, hgl, hgq⟩
  have hcs2 : ∀ y ∈ cs, y ∈ bs ∨ w.heap.size + 2 ≤ y := fun y hy => by rcases hcs y hy with h | h; (exact .inl h); (right; omega)
  clear eX e4 hgl hgq hjq hk G5 K R4 N4 O5 HEN hcs
  go_wp2_with (first | (refine wpList_load_mid rfl 87 _ rfl gS 68 rfl (cells1 (q0 :: gs)).toList _ hr4 Tryz.underlying87 rfl (by rw [Array.length_toList, cells1_size, HQL.out]; kernel_rfl) ?_) | (refine wpList_store_blk rfl 87 _ _ rfl (w.heap.size + 1) (cells1 (q0 :: gs)) rfl rfl R5 (by rw [cells1_size, HQL.out]; rfl) (by rw [cells1_size, HQL.out]; kernel_rfl) (cells1_one _) ?_; intro w6 R6 O6))
  exact bodyPost_ret (v := .agg (cells1 (q0 :: gs))) (results_blk Tryz.results68 rfl R6 Tryz.underlying87 rfl (by rw [cells1_size, HQL.out]; kernel_rfl)) rfl ⟨q0, gs, cs, rfl, HXX.out.2.1, HXX.out.2.2, by rw [HXX.out.1]; exact N5.off O6 (by simp; omega) (fun y hy hm => by simp at hm; rcases hcs2 y hy with h | h; (have := lNs _ h; omega); omega), fun y hy => by rcases hcs2 y hy with h | h; (exact .inl h); (right; omega), P5.mix O6 (fun y hy => by simp at hy; right; omega)⟩
end Go.Proofs.YtepobckhfodnganGreat
