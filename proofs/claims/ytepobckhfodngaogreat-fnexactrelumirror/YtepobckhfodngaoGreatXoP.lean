/-
  Two bits in the ring, plain; sixteen numbers as views.
-/
import Derived.Test.YtepobckhfodngaoGreatSpH
import Derived.Test.YtepobckhfodngaoGreatMirW
import Derived.Test.YtepobckhfodngaoGreatMirX
namespace Go.Proofs.YtepobckhfodngaoGreat
open Go.ChangeShapes Go.WideShapes Go.ChangeAt Go.RowKit
set_option linter.unusedVariables false

theorem ag2_flat {xss : List (List Int)} (h : Sq xss) : ag2 xss = .agg (cells1 xss.flatten) := by
  obtain ⟨a0, a1, a2, a3, b0, b1, b2, b3, c0, c1, c2, c3, d0, d1, d2, d3, rfl⟩ := h.lit
  rfl
/-- both bits together -/
def xoA (xss yss : List (List Int)) : List (List Int) := opRows (fun x y => x + y) 256 xss yss
/-- twice their product -/
def xoB (fs : List Int) : List (List Int) := opRows (fun x y => x + y) 256 (unflat fs) (unflat fs)
def xoV (xss yss : List (List Int)) (fs : List Int) : List (List Int) := opRows (fun x y => x - y) 256 (xoA xss yss) (xoB fs)
def xorC (x : MNet) (a b : MMirror) : Int := if dotCS x [a] [b] = 0 then (if a.xQ = 256 then 0 else 1) else dotCS x [a] [b]
def xoX (x : MNet) (a b : MMirror) : MNet := dotX 256 (vsOf [a]) (vsOf [b]) 1 x
def xoF (x : MNet) (a b : MMirror) : List Int := (xoV a.xViews b.xViews (dotS 256 (vsOf [a]) (vsOf [b]) 1 x)).flatten
def xorR (c : Int) (x : MNet) (a b : MMirror) : MMixResult := if c = 0 then ⟨0, mOf (xoX x a b).xQuarrel.xSome 256 (xoF x a b), xoX x a b⟩ else badM c
theorem xorR_ok (x : MNet) (a b : MMirror) : xorR 0 x a b = ⟨0, mOf (xoX x a b).xQuarrel.xSome 256 (xoF x a b), xoX x a b⟩ := if_pos rfl
theorem xorR_bad {c : Int} {x : MNet} {a b : MMirror} (h : c ≠ 0) : xorR c x a b = badM c := if_neg h
theorem xorC_bad {x : MNet} {a b : MMirror} (h : dotCS x [a] [b] ≠ 0) : xorC x a b = dotCS x [a] [b] := if_neg h
theorem xorC_form {x : MNet} {a b : MMirror} (h : dotCS x [a] [b] = 0) (k : a.xQ ≠ 256) : xorC x a b = 1 := by unfold xorC; rw [if_pos h, if_neg k]
theorem xorC_ok {x : MNet} {a b : MMirror} (h : dotCS x [a] [b] = 0) (k : a.xQ = 256) : xorC x a b = 0 := by unfold xorC; rw [if_pos h, if_pos k]
theorem pt_out {xss : List (List Int)} (h : Sq xss) (i j : Nat) (k : ¬ (i < 4 ∧ j < 4)) : pt xss i j = 0 := by
  unfold pt
  by_cases hi : i < 4
  · have : ¬ j < 4 := fun hj => k ⟨hi, hj⟩
    have hl := h.2 i hi
    generalize xss.getD i [] = r at hl ⊢
    rw [List.getD_eq_getElem?_getD, List.getElem?_eq_none (by omega)]
    rfl
  · have : xss.getD i [] = [] := by
      rw [List.getD_eq_getElem?_getD, List.getElem?_eq_none (by rw [h.1]; omega)]
      rfl
    rw [this]
    rfl
theorem opRows_bd2 (f : Int → Int → Int) (xss yss : List (List Int)) (i j : Nat) : 0 ≤ pt (opRows f 256 xss yss) i j ∧ pt (opRows f 256 xss yss) i j < 256 := by
  by_cases h : i < 4 ∧ j < 4
  · have e : (opRows f 256 xss yss).getD i [] = (List.range 4).map fun (k : Nat) => f (pt xss i k) (pt yss i k) % 256 := by simp [opRows, h.1]
    have : pt (opRows f 256 xss yss) i j = f (pt xss i j) (pt yss i j) % 256 := by
      show ((opRows f 256 xss yss).getD i []).getD j 0 = _
      rw [e]
      simp [h.2]
    rw [this]
    omega
  · rw [pt_out (opRows_sq f 256 xss yss) i j h]
    omega
theorem unflat_bd2 {fs : List Int} (h : Ok16 256 fs) (i j : Nat) : 0 ≤ pt (unflat fs) i j ∧ pt (unflat fs) i j < 256 := by
  by_cases k : i < 4 ∧ j < 4
  · rw [pt_unflat fs i j k.1 k.2]; exact h.2 _
  · rw [pt_out (unflat_sq fs) i j k]; omega
theorem join_add_flat (xss yss : List (List Int)) (w : World) (hs : Sq xss) (hs2 : Sq yss) (hx : ∀ i j, 0 ≤ pt xss i j ∧ pt xss i j < 256) (hy : ∀ i j, 0 ≤ pt yss i j ∧ pt yss i j < 256) :
    Calls Tryz.prog 122 #[.agg (cells1 xss.flatten), .int .i64 256, .agg (cells1 yss.flatten), .func (.func 138) #[] #[]] w fun e w' => e = .returned (.agg (cells1 (opRows (fun x y => x + y) 256 xss yss).flatten)) ∧ Below w.heap.size w w' := by
  have := impl_join_AddRing 256 xss yss w hs hs2 (.inr rfl) hx hy
  rw [ag2_flat hs, ag2_flat hs2, ag2_flat (opRows_sq _ _ _ _)] at this
  exact this
theorem join_sub_flat (xss yss : List (List Int)) (w : World) (hs : Sq xss) (hs2 : Sq yss) (hx : ∀ i j, 0 ≤ pt xss i j ∧ pt xss i j < 256) (hy : ∀ i j, 0 ≤ pt yss i j ∧ pt yss i j < 256) :
    Calls Tryz.prog 122 #[.agg (cells1 xss.flatten), .int .i64 256, .agg (cells1 yss.flatten), .func (.func 123) #[] #[]] w fun e w' => e = .returned (.agg (cells1 (opRows (fun x y => x - y) 256 xss yss).flatten)) ∧ Below w.heap.size w w' := by
  have := impl_join_SubRing 256 xss yss w hs hs2 (.inr rfl) hx hy
  rw [ag2_flat hs, ag2_flat hs2, ag2_flat (opRows_sq _ _ _ _)] at this
  exact this
end Go.Proofs.YtepobckhfodngaoGreat
