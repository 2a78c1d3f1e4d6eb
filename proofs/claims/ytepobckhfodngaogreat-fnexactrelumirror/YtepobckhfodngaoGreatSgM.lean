/-
  A sign, plain; lists of eight mirrors, read wherever they lie.
-/
import Derived.Test.YtepobckhfodngaoGreatAdM
import Derived.Test.YtepobckhfodngaoGreatPbS
namespace Go.Proofs.YtepobckhfodngaoGreat
open Go.ChangeShapes Go.WideShapes Go.ChangeAt Go.RowKit
set_option linter.unusedVariables false
/-- the bits of one part -/
def sgP (xss : List (List Int)) (part : Nat) (k : Nat) : List Int := shV (bpF xss part) k
theorem sgP_ok (xss : List (List Int)) {part : Nat} (hp : part < 4) (h0 : pt xss part part = 0) (k : Nat) : Ok16 2 (sgP xss part k) ∧ Own0 (sgP xss part k) := by
  have hget : ∀ j, j < 16 → (sgP xss part k).getD j 0 = bpF xss part (k * 17 + 1 + j) := fun j hj => by
    unfold sgP shV
    rw [List.getD_eq_getElem?_getD, List.getElem?_map, List.getElem?_range hj]
    rfl
  have hval : ∀ j, j < 16 → bpF xss part (k * 17 + 1 + j) = if j % 4 = part then halfN (pt xss (j / 4) part) k % 2 else 0 := fun j hj => by
    have e1 : (k * 17 + 1 + j) % 17 = 1 + j := by omega
    have e2 : (k * 17 + 1 + j) / 17 = k := by omega
    unfold bpF
    rw [e1, e2, if_neg (by omega), show (1 + j - 1) = j by omega]
  refine ⟨⟨by unfold sgP shV; simp, fun j => ?_⟩, fun p hp4 => ?_⟩
  · by_cases hj : j < 16
    · rw [hget j hj, hval j hj]
      split
      · omega
      · omega
    · have : (sgP xss part k).getD j 0 = 0 := by
        unfold sgP shV
        rw [List.getD_eq_getElem?_getD, List.getElem?_eq_none (by rw [List.length_map, List.length_range]; omega)]
        rfl
      rw [this]
      decide
  · rw [hget _ (by omega), hval _ (by omega)]
    split
    · rename_i h
      have e : p = part := by omega
      rw [show (p * 4 + p) / 4 = p by omega, e, h0, halfN_zero]
      rfl
    · rfl
def sgX1 (xss : List (List Int)) (x : MNet) : MNet := adR (sgP xss 0) (sgP xss 1) x
def sgL (xss : List (List Int)) (x : MNet) : Nat → List Int := adS (sgP xss 0) (sgP xss 1) x
def sgX2 (xss : List (List Int)) (x : MNet) : MNet := adR (sgP xss 2) (sgP xss 3) (sgX1 xss x)
def sgH (xss : List (List Int)) (x : MNet) : Nat → List Int := adS (sgP xss 2) (sgP xss 3) (sgX1 xss x)
def sgX3 (xss : List (List Int)) (x : MNet) : MNet := adR (sgL xss x) (sgH xss x) (sgX2 xss x)
def sgF (xss : List (List Int)) (x : MNet) : List Int := adS (sgL xss x) (sgH xss x) (sgX2 xss x) 7
def sgX (xss : List (List Int)) (x : MNet) : MNet := if (sgX1 xss x).xQuarrel.xSome = true then sgX1 xss x else if (sgX2 xss x).xQuarrel.xSome = true then sgX2 xss x else sgX3 xss x
theorem sgX_1 {xss : List (List Int)} {x : MNet} (h : (sgX1 xss x).xQuarrel.xSome = true) : sgX xss x = sgX1 xss x := if_pos h
theorem sgX_2 {xss : List (List Int)} {x : MNet} (h1 : (sgX1 xss x).xQuarrel.xSome = false) (h2 : (sgX2 xss x).xQuarrel.xSome = true) : sgX xss x = sgX2 xss x := by
  unfold sgX
  rw [if_neg (by rw [h1]; decide), if_pos h2]
theorem sgX_3 {xss : List (List Int)} {x : MNet} (h1 : (sgX1 xss x).xQuarrel.xSome = false) (h2 : (sgX2 xss x).xQuarrel.xSome = false) : sgX xss x = sgX3 xss x := by
  unfold sgX
  rw [if_neg (by rw [h1]; decide), if_neg (by rw [h2]; decide)]
theorem sg_ok {xss : List (List Int)} {x : MNet} {m : Nat} (h0 : ∀ i, i < 4 → pt xss i i = 0) (hx : NetB m x) :
    NetB (m + 84) (sgX1 xss x) ∧ NetB (m + 84 + 84) (sgX2 xss x) ∧ NetB (m + 84 + 84 + 84) (sgX3 xss x) ∧ (∀ k, k < 8 → Ok16 2 (sgL xss x k) ∧ Own0 (sgL xss x k)) ∧ (∀ k, k < 8 → Ok16 2 (sgH xss x k) ∧ Own0 (sgH xss x k)) ∧ Ok16 2 (sgF xss x) ∧ Own0 (sgF xss x) := by
  have a0 := fun k (_ : k < 8) => sgP_ok xss (part := 0) (by omega) (h0 0 (by omega)) k
  have a1 := fun k (_ : k < 8) => sgP_ok xss (part := 1) (by omega) (h0 1 (by omega)) k
  have a2 := fun k (_ : k < 8) => sgP_ok xss (part := 2) (by omega) (h0 2 (by omega)) k
  have a3 := fun k (_ : k < 8) => sgP_ok xss (part := 3) (by omega) (h0 3 (by omega)) k
  have h1 := adR_ok a0 (fun k h => (a1 k h).1) hx
  have l1 : ∀ k, k < 8 → Ok16 2 (sgL xss x k) ∧ Own0 (sgL xss x k) := fun k hk => ⟨adS_ok _ _ _ _, adS_own a0 a1 hx hk⟩
  have h2 := adR_ok a2 (fun k h => (a3 k h).1) h1
  have l2 : ∀ k, k < 8 → Ok16 2 (sgH xss x k) ∧ Own0 (sgH xss x k) := fun k hk => ⟨adS_ok _ _ _ _, adS_own a2 a3 h1 hk⟩
  exact ⟨h1, h2, adR_ok l1 (fun k h => (l2 k h).1) h2, l1, l2, adS_ok _ _ _ _, adS_own l1 l2 h2 (by omega)⟩
theorem sgX_NB {xss : List (List Int)} {x : MNet} {m : Nat} (h0 : ∀ i, i < 4 → pt xss i i = 0) (hx : NetB m x) : NetB (m + 252) (sgX xss x) := by
  obtain ⟨h1, h2, h3, -⟩ := sg_ok h0 hx
  unfold sgX
  split
  · exact h1.mono (by omega)
  · split
    · exact h2.mono (by omega)
    · exact h3.mono (by omega)
theorem sgX_tape (xss : List (List Int)) (x : MNet) : (sgX xss x).xTape = x.xTape := by
  have h1 : (sgX1 xss x).xTape = x.xTape := adNt_tape _ _ _ _
  have h2 : (sgX2 xss x).xTape = (sgX1 xss x).xTape := adNt_tape _ _ _ _
  have h3 : (sgX3 xss x).xTape = (sgX2 xss x).xTape := adNt_tape _ _ _ _
  unfold sgX
  split
  · exact h1
  · split
    · exact h2.trans h1
    · exact h3.trans (h2.trans h1)
/-- a list that is owned, read wherever it lies -/
theorem OwMirrorS.atAll {w : World} {v : Value} {xs : List MMirror} {bs : List Nat} (h : OwMirrorS w v xs bs) (h0 : 0 < xs.length) : ∃ g cap, v = .slice (some ⟨g, 0, none⟩) xs.length cap ∧ ∀ k, k < xs.length → ∃ u, ∀ W cs, Off cs w W → (∀ y ∈ bs, y ∉ cs) → MirAt W g (k * 2) (xs.getD k zM).xQ u (xs.getD k zM).xViews := by
  have hl := h.lt
  obtain ⟨us, bo, bi, h1, h2, rfl, h3⟩ := h
  obtain ⟨g, cap, rfl, rfl, -, -⟩ := Own.shape h1 h0
  refine ⟨g, cap, rfl, fun k hk => ?_⟩
  obtain ⟨u, bb, e1, e2, hM⟩ := h2.get k hk
  obtain ⟨c1, c2⟩ := msC_get h2.len.1 k hk
  rw [e1] at c2
  refine ⟨u, fun W cs o hn => ⟨⟨Nat.lt_of_lt_of_le (hl g (by simp)) o.size, ?_, ?_⟩, (hM.off o (fun y hy => hn y (List.mem_append.2 (.inr (List.mem_flatten.2 ⟨bb, List.mem_of_getElem? e2, hy⟩))))).reads⟩⟩
  · have k' := Own.cell h1 (k * 2) (by omega)
    exact ((o.at g (hl g (by simp)) (hn g (by simp))).1 _).trans (k'.trans c1)
  · have k' := Own.cell h1 (k * 2 + 1) (by omega)
    exact ((o.at g (hl g (by simp)) (hn g (by simp))).1 _).trans (k'.trans c2)
/-- one mirror of a list made by append, with what it owns -/
theorem LsO.own {lo : Nat} {w0 : World} {G : Nat → MMirror} {b g cap : Nat} {us : List Value} {bi : List (List Nat)} (h : LsO lo w0 G b g cap us bi) (i : Nat) (hi : i < b) : ∃ u bm, w0.cell? ⟨g, i * 2, none⟩ = some (.int .i64 (G i).xQ) ∧ w0.cell? ⟨g, i * 2 + 1, none⟩ = some u ∧ Mat w0 u (G i).xViews bm ∧ ∀ y ∈ bm, y ∈ g :: bi.flatten ∧ y ≠ g := by
  obtain ⟨h1, h2, h3, h4⟩ := h
  have hlen : ((List.range b).map G).length = b := by simp
  have hget : ((List.range b).map G).getD i zM = G i := by simp [hi]
  obtain ⟨u, bb, e1, e2, hM⟩ := h2.get i (by rw [hlen]; exact hi)
  obtain ⟨c1, c2⟩ := msC_get h2.len.1 i (by rw [hlen]; exact hi)
  rw [hget] at hM c1
  rw [e1] at c2
  refine ⟨u, bb, (Own.cell h1 (i * 2) (by omega)).trans c1, (Own.cell h1 (i * 2 + 1) (by omega)).trans c2, hM, fun y hy => ?_⟩
  have hm : y ∈ bi.flatten := List.mem_flatten.2 ⟨bb, List.mem_of_getElem? e2, hy⟩
  exact ⟨by simp only [List.mem_cons]; exact .inr hm, fun e => (List.nodup_cons.1 h3).1 (e ▸ hm)⟩
end Go.Proofs.YtepobckhfodngaoGreat
