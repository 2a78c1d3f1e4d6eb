/-
  What becomes 0 below 0, in the program: relu.
-/
import Derived.Test.YtepobckhfodngaoGreatNsC
import Derived.Test.YtepobckhfodngaoGreatRlM
namespace Go.Proofs.YtepobckhfodngaoGreat
open Go.ChangeShapes Go.WideShapes Go.ChangeAt Go.RowKit
set_option linter.unusedVariables false
def z17R : List Int := List.replicate 17 0
def rlP0 (fn : List Int) : Nat → List Int := fun j => if j = 0 then 256 :: fn else z17R
def rlP (fn sf : List Int) (sx : MNet) : Nat → Nat → List Int
  | 0 => rlP0 fn
  | 1 => updP (rlP0 fn) 1 (2 :: sf)
  | 2 => updP (updP (rlP0 fn) 1 (2 :: sf)) 2 (256 :: ijA sf sx)
  | 3 => updP (updP (updP (rlP0 fn) 1 (2 :: sf)) 2 (256 :: ijA sf sx)) 3 (256 :: ijB sf sx)
  | 4 => updP (updP (updP (updP (rlP0 fn) 1 (2 :: sf)) 2 (256 :: ijA sf sx)) 3 (256 :: ijB sf sx)) 4 (256 :: ijF sf sx)
  | _ => updP (updP (updP (updP (updP (rlP0 fn) 1 (2 :: sf)) 2 (256 :: ijA sf sx)) 3 (256 :: ijB sf sx)) 4 (256 :: ijF sf sx)) 5 (256 :: subF 256 fn (prF 256 fn (ijF sf sx) (ijX3 sf sx)))
def rlN (fn sf : List Int) (sx x : MNet) : Nat → MNet
  | 0 => x
  | 1 => sx
  | 2 => ijX1 sf sx
  | 3 => ijX2 sf sx
  | 4 => ijX3 sf sx
  | _ => prX 256 fn (ijF sf sx) (ijX3 sf sx)
theorem z17R_len : z17R.length = 17 := by unfold z17R; simp
theorem updP_len {P : Nat → List Int} {i : Nat} {v : List Int} (h : ∀ k, k < 6 → (P k).length = 17) (hv : v.length = 17) : ∀ k, k < 6 → (updP P i v k).length = 17 := fun k hk => by
  unfold updP
  split
  · exact hv
  · exact h k hk
theorem rlP0_len {fn : List Int} (h : fn.length = 16) : ∀ k, k < 6 → (rlP0 fn k).length = 17 := fun k _ => by
  unfold rlP0
  split
  · rw [List.length_cons, h]
  · exact z17R_len
theorem rl_end {xss : List (List Int)} {x : MNet} {j : Nat} (hj : j ≤ 5) (h0 : x.xQuarrel.xSome = false) (h : (rlN xss.flatten (sgF xss x) (sgX xss x) x j).xQuarrel.xSome = true ∨ j = 5) (hk : ∀ k, k < j → (rlN xss.flatten (sgF xss x) (sgX xss x) x k).xQuarrel.xSome = false) :
    rlX xss x = rlN xss.flatten (sgF xss x) (sgX xss x) x j ∧ ((rlX xss x).xQuarrel.xSome = false → rlP xss.flatten (sgF xss x) (sgX xss x) j 5 = 256 :: rlF xss x) := by
  obtain rfl | rfl | rfl | rfl | rfl | rfl : j = 0 ∨ j = 1 ∨ j = 2 ∨ j = 3 ∨ j = 4 ∨ j = 5 := by omega
  · rcases h with h | h
    · exact absurd (show x.xQuarrel.xSome = true from h) (by rw [h0]; decide)
    · omega
  · have h1 : (sgX xss x).xQuarrel.xSome = true := by rcases h with h | h; exact h; omega
    have e := rlX_1 h1
    exact ⟨e, fun hf => by rw [e, h1] at hf; cases hf⟩
  · have h2 : (ijX1 (sgF xss x) (sgX xss x)).xQuarrel.xSome = true := by rcases h with h | h; exact h; omega
    have e1 : rlX2 xss x = ijX1 (sgF xss x) (sgX xss x) := ijX_1 h2
    have e := rlX_2 (hk 1 (by omega)) (by rw [e1]; exact h2)
    exact ⟨e.trans e1, fun hf => by rw [e, e1, h2] at hf; cases hf⟩
  · have h2 : (ijX2 (sgF xss x) (sgX xss x)).xQuarrel.xSome = true := by rcases h with h | h; exact h; omega
    have e1 : rlX2 xss x = ijX2 (sgF xss x) (sgX xss x) := ijX_2 (hk 2 (by omega)) h2
    have e := rlX_2 (hk 1 (by omega)) (by rw [e1]; exact h2)
    exact ⟨e.trans e1, fun hf => by rw [e, e1, h2] at hf; cases hf⟩
  · have h2 : (ijX3 (sgF xss x) (sgX xss x)).xQuarrel.xSome = true := by rcases h with h | h; exact h; omega
    have e1 : rlX2 xss x = ijX3 (sgF xss x) (sgX xss x) := ijX_3 (hk 2 (by omega)) (hk 3 (by omega))
    have e := rlX_2 (hk 1 (by omega)) (by rw [e1]; exact h2)
    exact ⟨e.trans e1, fun hf => by rw [e, e1, h2] at hf; cases hf⟩
  · have e1 : rlX2 xss x = ijX3 (sgF xss x) (sgX xss x) := ijX_3 (hk 2 (by omega)) (hk 3 (by omega))
    have e := rlX_3 (hk 1 (by omega)) (by rw [e1]; exact hk 4 (by omega))
    have e3 : rlX3 xss x = prX 256 xss.flatten (ijF (sgF xss x) (sgX xss x)) (ijX3 (sgF xss x) (sgX xss x)) := by unfold rlX3; rw [e1]; rfl
    have e4 : rlF xss x = subF 256 xss.flatten (prF 256 xss.flatten (ijF (sgF xss x) (sgX xss x)) (ijX3 (sgF xss x) (sgX xss x))) := by unfold rlF; rw [e1]; rfl
    exact ⟨e.trans e3, fun _ => by rw [e4]; rfl⟩
theorem sheet_build0 {fs : List Int} (h : fs.length = 16) (w : World) : (Instr.build 114 #[(0, .agg (cells1 (256 :: fs)))]).run Tryz.prog w = .ok (.agg (cells1 (shL (rlP0 fs)))) w := by
  obtain ⟨a0, a1, a2, a3, b0, b1, b2, b3, c0, c1, c2, c3, d0, d1, d2, d3, rfl⟩ := lit16 h
  kernel_rfl
theorem zero_sheetR (w : World) : (zeroValue 114).run Tryz.prog w = .ok (.agg #[.int .i64 0, .int .i64 0, .int .i64 0, .int .i64 0, .int .i64 0, .int .i64 0, .int .i64 0, .int .i64 0, .int .i64 0, .int .i64 0, .int .i64 0, .int .i64 0, .int .i64 0, .int .i64 0, .int .i64 0, .int .i64 0, .int .i64 0, .int .i64 0, .int .i64 0, .int .i64 0, .int .i64 0, .int .i64 0, .int .i64 0, .int .i64 0, .int .i64 0, .int .i64 0, .int .i64 0, .int .i64 0, .int .i64 0, .int .i64 0, .int .i64 0, .int .i64 0, .int .i64 0, .int .i64 0, .int .i64 0, .int .i64 0, .int .i64 0, .int .i64 0, .int .i64 0, .int .i64 0, .int .i64 0, .int .i64 0, .int .i64 0, .int .i64 0, .int .i64 0, .int .i64 0, .int .i64 0, .int .i64 0, .int .i64 0, .int .i64 0, .int .i64 0, .int .i64 0, .int .i64 0, .int .i64 0, .int .i64 0, .int .i64 0, .int .i64 0, .int .i64 0, .int .i64 0, .int .i64 0, .int .i64 0, .int .i64 0, .int .i64 0, .int .i64 0, .int .i64 0, .int .i64 0, .int .i64 0, .int .i64 0, .int .i64 0, .int .i64 0, .int .i64 0, .int .i64 0, .int .i64 0, .int .i64 0, .int .i64 0, .int .i64 0, .int .i64 0, .int .i64 0, .int .i64 0, .int .i64 0, .int .i64 0, .int .i64 0, .int .i64 0, .int .i64 0, .int .i64 0, .int .i64 0, .int .i64 0, .int .i64 0, .int .i64 0, .int .i64 0, .int .i64 0, .int .i64 0, .int .i64 0, .int .i64 0, .int .i64 0, .int .i64 0, .int .i64 0, .int .i64 0, .int .i64 0, .int .i64 0, .int .i64 0, .int .i64 0]) w := by kernel_rfl
set_option maxHeartbeats 8000000 in
set_option maxRecDepth 100000 in
theorem impl_relu (xss : List (List Int)) (b0 : Nat) (x : MNet) (bs : List Nat) (m : Nat) (w : World) (N : NetIn w b0 x bs) (B : NetB m x) (hm : m ≤ 198000) (hq0 : x.xQuarrel.xSome = false) (hsq : Sq xss) (hbd : ∀ i j, 0 ≤ pt xss i j ∧ pt xss i j < 256) (hown : ∀ i, i < 4 → pt xss i i = 0) :
    Calls Tryz.prog 41 #[.pointer (some ⟨b0, 0, none⟩), .agg (cells1 (256 :: xss.flatten))] w fun e w' => ∃ q0 gs cs, e = .returned (.agg (cells1 (q0 :: gs))) ∧ gs.length = 16 ∧ ((rlX xss x).xQuarrel.xSome = false → q0 = 256 ∧ gs = rlF xss x) ∧ NetIn w' b0 (rlX xss x) cs ∧ (∀ y ∈ cs, y ∈ bs ∨ w.heap.size ≤ y) ∧ Off (b0 :: bs) w w' := by
  have hl : xss.flatten.length = 16 := flat_len hsq
  have okX := sh_ok16 hsq hbd
  have Bs := sgX_NB hown B
  obtain ⟨-, -, -, -, -, okF, owF⟩ := sg_ok hown B
  obtain ⟨B1, B2, B3⟩ := ijX_B (sgF xss x) Bs
  have hfb : ∀ j, 0 ≤ (sgF xss x).getD j 0 ∧ (sgF xss x).getD j 0 < 256 := fun j => ⟨(okF.2 j).1, by have := (okF.2 j).2; omega⟩
  have hoA : Ok16 256 (ijA (sgF xss x) (sgX xss x)) := xrF_ok _ _ _
  have hoB : Ok16 256 (ijB (sgF xss x) (sgX xss x)) := xrF_ok _ _ _
  have hoF : Ok16 256 (ijF (sgF xss x) (sgX xss x)) := xrF_ok _ _ _
  have l0 := rlP0_len hl
  have l1 := updP_len (i := 1) (v := 2 :: sgF xss x) l0 (by rw [List.length_cons, okF.1])
  have l2 := updP_len (i := 2) (v := 256 :: ijA (sgF xss x) (sgX xss x)) l1 (by rw [List.length_cons, hoA.1])
  have l3 := updP_len (i := 3) (v := 256 :: ijB (sgF xss x) (sgX xss x)) l2 (by rw [List.length_cons, hoB.1])
  have l4 := updP_len (i := 4) (v := 256 :: ijF (sgF xss x) (sgX xss x)) l3 (by rw [List.length_cons, hoF.1])
  have l5 := updP_len (i := 5) (v := 256 :: subF 256 xss.flatten (prF 256 xss.flatten (ijF (sgF xss x) (sgX xss x)) (ijX3 (sgF xss x) (sgX xss x)))) l4 (by rw [List.length_cons, subF_len])
  have K0 : ∀ gS, StepOk2 70 b0 gS (rlN xss.flatten (sgF xss x) (sgX xss x) x 0) (rlN xss.flatten (sgF xss x) (sgX xss x) x 1) (rlP xss.flatten (sgF xss x) (sgX xss x) 0) (rlP xss.flatten (sgF xss x) (sgX xss x) 1) := fun gS hq W cs hN hG hn => (impl_signStep b0 gS x cs m (rlP0 xss.flatten) xss W hN B (by omega) hq hG rfl hsq hbd hown hn).mono (by
    rintro e w1 ⟨rfl, v, hv, hve, G1, cs1, h1⟩
    exact ⟨rfl, updP (rlP0 xss.flatten) 1 v, updP_len l0 hv, fun h => by rw [hve h]; rfl, G1, cs1, h1⟩)
  have K1 : ∀ gS, StepOk2 71 b0 gS (rlN xss.flatten (sgF xss x) (sgX xss x) x 1) (rlN xss.flatten (sgF xss x) (sgX xss x) x 2) (rlP xss.flatten (sgF xss x) (sgX xss x) 1) (rlP xss.flatten (sgF xss x) (sgX xss x) 2) := fun gS => StepOk.two (fun hq W cs hN hG hn => impl_lowStep b0 gS (sgX xss x) cs (m + 252) _ (sgF xss x) W hN Bs (by omega) hG rfl okF.1 hfb hn) l2
  have K2 : ∀ gS, StepOk2 72 b0 gS (rlN xss.flatten (sgF xss x) (sgX xss x) x 2) (rlN xss.flatten (sgF xss x) (sgX xss x) x 3) (rlP xss.flatten (sgF xss x) (sgX xss x) 2) (rlP xss.flatten (sgF xss x) (sgX xss x) 3) := fun gS => StepOk.two (fun hq W cs hN hG hn => impl_highStep b0 gS (ijX1 (sgF xss x) (sgX xss x)) cs (m + 252 + 12) _ (sgF xss x) W hN B1 (by omega) hG rfl okF.1 hfb hn) l3
  have K3 : ∀ gS, StepOk2 73 b0 gS (rlN xss.flatten (sgF xss x) (sgX xss x) x 3) (rlN xss.flatten (sgF xss x) (sgX xss x) x 4) (rlP xss.flatten (sgF xss x) (sgX xss x) 3) (rlP xss.flatten (sgF xss x) (sgX xss x) 4) := fun gS => StepOk.two (fun hq W cs hN hG hn => impl_belowStep b0 gS (ijX2 (sgF xss x) (sgX xss x)) cs (m + 252 + 12 + 12) _ _ _ W hN B2 (by omega) hG rfl rfl hoA hoB hn) l4
  have K4 : ∀ gS, StepOk2 74 b0 gS (rlN xss.flatten (sgF xss x) (sgX xss x) x 4) (rlN xss.flatten (sgF xss x) (sgX xss x) x 5) (rlP xss.flatten (sgF xss x) (sgX xss x) 4) (rlP xss.flatten (sgF xss x) (sgX xss x) 5) := fun gS => StepOk.two (fun hq W cs hN hG hn => impl_keepStep b0 gS (ijX3 (sgF xss x) (sgX xss x)) cs (m + 252 + 12 + 12 + 12) _ xss.flatten (ijF (sgF xss x) (sgX xss x)) W hN B3 (by omega) hG rfl rfl okX hoF hn) l5
  have KF := fun gS gF cF W (hN : NetIn W b0 x bs) hG hn hnF lF c0 c1 c2 c3 c4 => impl_follow_relu (rlN xss.flatten (sgF xss x) (sgX xss x) x) (rlP xss.flatten (sgF xss x) (sgX xss x)) b0 gS gF cF bs W hN hG l0 hn hnF lF c0 c1 c2 c3 c4 (K0 gS) (K1 gS) (K2 gS) (K3 gS) (K4 gS)
  have HEN : Hid (∀ j, j ≤ 5 → ((rlN xss.flatten (sgF xss x) (sgX xss x) x j).xQuarrel.xSome = true ∨ j = 5) → (∀ k, k < j → (rlN xss.flatten (sgF xss x) (sgX xss x) x k).xQuarrel.xSome = false) → rlX xss x = rlN xss.flatten (sgF xss x) (sgX xss x) x j ∧ ((rlX xss x).xQuarrel.xSome = false → rlP xss.flatten (sgF xss x) (sgX xss x) j 5 = 256 :: rlF xss x)) := fun j hj h hk => rl_end hj hq0 h hk
  have HLQ : Hid (((256 : Int) :: xss.flatten).length = 17) := by show _ = _; rw [List.length_cons, hl]
  have HL : Hid (xss.flatten.length = 16) := hl
  change ∀ gS gF cF W, NetIn W b0 x bs → Blk W gS 114 (cells1 (shL (rlP0 xss.flatten))) → _ at KF
  have HP0 : Hid ((shL (rlP0 xss.flatten)).length = 102) := shL_len _
  clear K0 K1 K2 K3 K4 B Bs B1 B2 B3 hoA hoB hoF okX okF owF hfb l0 l1 l2 l3 l4 l5 hq0 hbd hown hl hsq
  generalize rlN xss.flatten (sgF xss x) (sgX xss x) x = XX at *
  generalize rlP xss.flatten (sgF xss x) (sgX xss x) = PP at *
  generalize xss.flatten = fs at *
  have lN := N.lt
  have lNs := N.lts
  have S0 : Blk ((w.alloc (.cells (cells1 (256 :: fs)) 87)).alloc (.cells #[.int .i64 0, .int .i64 0, .int .i64 0, .int .i64 0, .int .i64 0, .int .i64 0, .int .i64 0, .int .i64 0, .int .i64 0, .int .i64 0, .int .i64 0, .int .i64 0, .int .i64 0, .int .i64 0, .int .i64 0, .int .i64 0, .int .i64 0] 87)) w.heap.size 87 (cells1 (256 :: fs)) := (Blk.new w _ _).alloc _
  have R0 : Blk ((w.alloc (.cells (cells1 (256 :: fs)) 87)).alloc (.cells #[.int .i64 0, .int .i64 0, .int .i64 0, .int .i64 0, .int .i64 0, .int .i64 0, .int .i64 0, .int .i64 0, .int .i64 0, .int .i64 0, .int .i64 0, .int .i64 0, .int .i64 0, .int .i64 0, .int .i64 0, .int .i64 0, .int .i64 0] 87)) (w.heap.size + 1) 87 #[.int .i64 0, .int .i64 0, .int .i64 0, .int .i64 0, .int .i64 0, .int .i64 0, .int .i64 0, .int .i64 0, .int .i64 0, .int .i64 0, .int .i64 0, .int .i64 0, .int .i64 0, .int .i64 0, .int .i64 0, .int .i64 0, .int .i64 0] := by simpa using Blk.new (w.alloc (.cells (cells1 (256 :: fs)) 87)) 87 #[.int .i64 0, .int .i64 0, .int .i64 0, .int .i64 0, .int .i64 0, .int .i64 0, .int .i64 0, .int .i64 0, .int .i64 0, .int .i64 0, .int .i64 0, .int .i64 0, .int .i64 0, .int .i64 0, .int .i64 0, .int .i64 0, .int .i64 0]
  have B0 : Below w.heap.size w ((w.alloc (.cells (cells1 (256 :: fs)) 87)).alloc (.cells #[.int .i64 0, .int .i64 0, .int .i64 0, .int .i64 0, .int .i64 0, .int .i64 0, .int .i64 0, .int .i64 0, .int .i64 0, .int .i64 0, .int .i64 0, .int .i64 0, .int .i64 0, .int .i64 0, .int .i64 0, .int .i64 0, .int .i64 0] 87)) := (by repeat (first | exact Below.refl _ _ | refine Below.drew ?_ | refine below_drewN ?_ _ | refine Below.setCell ?_ (by first | omega | (simp; done) | (simp; omega)) _ | refine Below.alloc ?_ (by first | omega | (simp; done) | (simp; omega)) _))
  have N0 := N.keep B0
  have z0 : Hid ((((w.alloc (.cells (cells1 (256 :: fs)) 87)).alloc (.cells #[.int .i64 0, .int .i64 0, .int .i64 0, .int .i64 0, .int .i64 0, .int .i64 0, .int .i64 0, .int .i64 0, .int .i64 0, .int .i64 0, .int .i64 0, .int .i64 0, .int .i64 0, .int .i64 0, .int .i64 0, .int .i64 0, .int .i64 0] 87))).heap.size = w.heap.size + 2) := by show _ = _; simp
  go_enter Tryz.func41, Tryz.ntmps41
  go_upto_region 1 with fail
  generalize ((w.alloc (.cells (cells1 (256 :: fs)) 87)).alloc (.cells #[.int .i64 0, .int .i64 0, .int .i64 0, .int .i64 0, .int .i64 0, .int .i64 0, .int .i64 0, .int .i64 0, .int .i64 0, .int .i64 0, .int .i64 0, .int .i64 0, .int .i64 0, .int .i64 0, .int .i64 0, .int .i64 0, .int .i64 0] 87)) = w2 at *
  clear N
  have A2 := Blk.new w2 112 #[.nilFunc, .nilFunc, .nilFunc, .nilFunc, .nilFunc]
  go_upto_region 2 with (refine wpList_store_blk rfl 112 _ _ rfl w2.heap.size #[.func (.func 70) #[] #[], .func (.func 71) #[] #[], .func (.func 72) #[] #[], .func (.func 73) #[] #[], .func (.func 74) #[] #[]] rfl rfl A2 rfl (by kernel_rfl) (by kernel_rfl) ?_; intro w3 A3 O3)
  have O3' : Off [w2.heap.size] w2 w3 := ((Off.refl _ _).alloc _).trans O3
  have zz := z0.out
  have S3 := S0.off O3' (by simp; omega)
  have R3 := R0.off O3' (by simp; omega)
  have N3 := N0.off O3' (by simp; omega) (fun y hy hm => by have := lNs y hy; simp at hm; omega)
  have B3 := B0.trans (O3'.toBelow B0.size (by simp; omega))
  have lA := A3.lt
  have hgF : w.heap.size + 2 ≤ w2.heap.size := by omega
  clear zz z0 A2 O3 O3' S0 R0 N0 B0
  generalize w2.heap.size = gF at *
  have Zn := Blk.new w3 114 #[.int .i64 0, .int .i64 0, .int .i64 0, .int .i64 0, .int .i64 0, .int .i64 0, .int .i64 0, .int .i64 0, .int .i64 0, .int .i64 0, .int .i64 0, .int .i64 0, .int .i64 0, .int .i64 0, .int .i64 0, .int .i64 0, .int .i64 0, .int .i64 0, .int .i64 0, .int .i64 0, .int .i64 0, .int .i64 0, .int .i64 0, .int .i64 0, .int .i64 0, .int .i64 0, .int .i64 0, .int .i64 0, .int .i64 0, .int .i64 0, .int .i64 0, .int .i64 0, .int .i64 0, .int .i64 0, .int .i64 0, .int .i64 0, .int .i64 0, .int .i64 0, .int .i64 0, .int .i64 0, .int .i64 0, .int .i64 0, .int .i64 0, .int .i64 0, .int .i64 0, .int .i64 0, .int .i64 0, .int .i64 0, .int .i64 0, .int .i64 0, .int .i64 0, .int .i64 0, .int .i64 0, .int .i64 0, .int .i64 0, .int .i64 0, .int .i64 0, .int .i64 0, .int .i64 0, .int .i64 0, .int .i64 0, .int .i64 0, .int .i64 0, .int .i64 0, .int .i64 0, .int .i64 0, .int .i64 0, .int .i64 0, .int .i64 0, .int .i64 0, .int .i64 0, .int .i64 0, .int .i64 0, .int .i64 0, .int .i64 0, .int .i64 0, .int .i64 0, .int .i64 0, .int .i64 0, .int .i64 0, .int .i64 0, .int .i64 0, .int .i64 0, .int .i64 0, .int .i64 0, .int .i64 0, .int .i64 0, .int .i64 0, .int .i64 0, .int .i64 0, .int .i64 0, .int .i64 0, .int .i64 0, .int .i64 0, .int .i64 0, .int .i64 0, .int .i64 0, .int .i64 0, .int .i64 0, .int .i64 0, .int .i64 0, .int .i64 0]
  have hz := zero_sheetR
  go_upto_region 3 with (first | (refine wpList_load_blk rfl 87 _ rfl w.heap.size rfl S3 Tryz.underlying87 rfl (by rw [cells1_size, HLQ.out]; kernel_rfl) ?_) | (refine wpList_build rfl 114 _ rfl #[(0, .agg (cells1 (256 :: fs)))] (by kernel_rfl) (.agg (cells1 (shL (rlP0 fs)))) (sheet_build0 HL.out _) ?_) | (refine wpList_store_blk rfl 114 _ _ rfl w3.heap.size (cells1 (shL (rlP0 fs))) rfl rfl Zn (by rw [cells1_size, HP0.out]; rfl) (by rw [cells1_size, HP0.out]; kernel_rfl) (cells1_one _) ?_; intro w4 G4 O4))
  have O4' : Off [w3.heap.size] w3 w4 := ((Off.refl _ _).alloc _).trans O4
  have lR3 := R3.lt
  have R4 := R3.off O4' (by simp; omega)
  have A4 := A3.off O4' (by simp; omega)
  have N4 := N3.off O4' (by simp; omega) (fun y hy hm => by have := lNs y hy; simp at hm; omega)
  have B4 := B3.trans (O4'.toBelow B3.size (by simp; omega))
  have hgS : gF < w3.heap.size := lA
  have lG4 := G4.lt
  clear Zn O4 O4' S3 R3 A3 N3 B3 lA lR3 hz
  generalize w3.heap.size = gS at *
  have lA4 := A4.lt
  have hn : gS ∉ b0 :: bs := fun hm => by rcases List.mem_cons.1 hm with h | h; omega; (have := lNs _ h; omega)
  have hnF : gF ∉ b0 :: gS :: bs := fun hm => by rcases List.mem_cons.1 hm with h | h; omega; (rcases List.mem_cons.1 h with h | h; omega; (have := lNs _ h; omega))
  have K := KF gS gF 5 w4 N4 G4 hn hnF lA4 (A4.at.1 0) (A4.at.1 1) (A4.at.1 2) (A4.at.1 3) (A4.at.1 4)
  clear KF G4 A4
  go_wp2_with fail
  refine K.mono ?_
  rintro e w5 ⟨rfl, j, hj, hjq, PQ, cs, hPl, hPe, G5, N5, hcs, O5, hk⟩
  obtain ⟨eX, hP5⟩ := HEN.out j hj hjq hk
  have hl5 := hPl 5 (by decide)
  obtain ⟨q0, gs, e4⟩ : ∃ q0 gs, PQ 5 = q0 :: gs := by
    cases h : PQ 5 with
    | nil => rw [h] at hl5; cases hl5
    | cons a l => exact ⟨a, l, rfl⟩
  have hgl : gs.length = 16 := by rw [e4, List.length_cons] at hl5; omega
  have hgq : (rlX xss x).xQuarrel.xSome = false → q0 = 256 ∧ gs = rlF xss x := fun h => by
    have e5 := hP5 h
    rw [eX] at h
    rw [← hPe h, e4] at e5
    exact ⟨(List.cons.inj e5).1, (List.cons.inj e5).2⟩
  have nR : w.heap.size + 1 ∉ b0 :: gS :: bs := fun hm => by rcases List.mem_cons.1 hm with h | h; omega; (rcases List.mem_cons.1 h with h | h; omega; (have := lNs _ h; omega))
  have R5 := R4.off O5 nR
  have zB := B4.size
  have P5 : Off (b0 :: bs) w w5 := (Off.ofBelow B4).mix O5 (fun y hy => by rcases List.mem_cons.1 hy with h | h; (left; rw [h]; simp); (rcases List.mem_cons.1 h with h | h; (right; omega); (left; simp [h])))
  have HQL : Hid ((q0 :: gs).length = 17) := by show _ = _; rw [List.length_cons, hgl]
  have hr4 := shL_range G5 5 (by decide) hl5
  rw [e4] at hr4
  have HXX : Hid (rlX xss x = XX j ∧ gs.length = 16 ∧ ((rlX xss x).xQuarrel.xSome = false → q0 = 256 ∧ gs = rlF xss x)) := ⟨eX, hgl, hgq⟩
  have hcs2 : ∀ y ∈ cs, y ∈ bs ∨ w.heap.size + 2 ≤ y := fun y hy => by rcases hcs y hy with h | h; (exact .inl h); (right; omega)
  clear eX e4 hgl hgq hjq hk G5 K R4 N4 O5 HEN hcs hP5 hPl hPe hl5
  go_wp2_with (first | (refine wpList_load_mid rfl 87 _ rfl gS 85 rfl (cells1 (q0 :: gs)).toList _ hr4 Tryz.underlying87 rfl (by rw [Array.length_toList, cells1_size, HQL.out]; kernel_rfl) ?_) | (refine wpList_store_blk rfl 87 _ _ rfl (w.heap.size + 1) (cells1 (q0 :: gs)) rfl rfl R5 (by rw [cells1_size, HQL.out]; rfl) (by rw [cells1_size, HQL.out]; kernel_rfl) (cells1_one _) ?_; intro w6 R6 O6))
  exact bodyPost_ret (v := .agg (cells1 (q0 :: gs))) (results_blk Tryz.results41 rfl R6 Tryz.underlying87 rfl (by rw [cells1_size, HQL.out]; kernel_rfl)) rfl ⟨q0, gs, cs, rfl, HXX.out.2.1, HXX.out.2.2, by rw [HXX.out.1]; exact N5.off O6 (by simp; omega) (fun y hy hm => by simp at hm; rcases hcs2 y hy with h | h; (have := lNs _ h; omega); omega), fun y hy => by rcases hcs2 y hy with h | h; (exact .inl h); (right; omega), P5.mix O6 (fun y hy => by simp at hy; right; omega)⟩
end Go.Proofs.YtepobckhfodngaoGreat
