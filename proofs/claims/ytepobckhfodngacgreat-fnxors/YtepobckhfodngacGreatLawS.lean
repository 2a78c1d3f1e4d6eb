/-
  The plain part of chapter 3's laws on sums: what comes of two mirrors, part by part, is worth what comes of what they are worth.
-/
import Derived.Test.YtepobckhfodngacGreatLawM
import Derived.Test.YtepobckhfodngacGreatMirU
namespace Go.Proofs.YtepobckhfodngacGreat
set_option linter.unusedVariables false

theorem pt_opRows (f : Int → Int → Int) (q : Int) (xss yss : List (List Int)) (i j : Nat) (hi : i < 4) (hj : j < 4) : pt (opRows f q xss yss) i j = f (pt xss i j) (pt yss i j) % q := by
  have e : (opRows f q xss yss).getD i [] = (List.range 4).map fun (k : Nat) => f (pt xss i k) (pt yss i k) % q := by simp [opRows, hi]
  unfold pt
  rw [e]
  simp [hj, pt]
theorem opRows_bd (f : Int → Int → Int) {q : Int} (hq : isQ q) (xss yss : List (List Int)) (i j : Nat) (hi : i < 4) (hj : j < 4) : 0 ≤ pt (opRows f q xss yss) i j ∧ pt (opRows f q xss yss) i j < q := by
  have hq0 : 0 < q := by rcases hq with e | e <;> omega
  rw [pt_opRows f q xss yss i j hi hj]
  exact ⟨Int.emod_nonneg _ (by omega), Int.emod_lt_of_pos _ hq0⟩
theorem mirC_opRows (f : Int → Int → Int) {q : Int} {xss yss : List (List Int)} (hx : mirC q xss = 0) (hy : mirC q yss = 0) (hz : f 0 0 % q = 0) : mirC q (opRows f q xss yss) = 0 := by
  have hq := (mirC_zero hx).1
  have hs := opRows_sq f q xss yss
  refine mirC_ok hq hs.1 (viewsC_all q _ fun i hi => ?_) ((ownB_iff _).2 fun i hi => ?_)
  · rw [hs.1] at hi
    refine viewC_ok (hs.2 i hi) ((okV_iff q _).2 fun j hj => ?_)
    rw [hs.2 i hi] at hj
    exact opRows_bd f hq xss yss i j hi hj
  · show pt (opRows f q xss yss) i i = 0
    rw [pt_opRows f q xss yss i i hi hi, show pt xss i i = 0 from (mirC_zero hx).2.2.2.2 i hi, show pt yss i i = 0 from (mirC_zero hy).2.2.2.2 i hi]
    exact hz
theorem alike_opRows (f : Int → Int → Int) (q : Int) {xss yss : List (List Int)} {but : Int} (hx : alikeB xss but = true) (hy : alikeB yss but = true) : alikeB (opRows f q xss yss) but = true := by
  rw [alikeB_iff] at *
  intro k hk i hi
  have h1 := knower_le k but
  rcases hx k hk i hi with h | h | h
  · exact .inl h
  · exact .inr (.inl h)
  · rcases hy k hk i hi with g | g | g
    · exact .inl g
    · exact .inr (.inl g)
    · refine .inr (.inr ?_)
      rw [pt_opRows f q xss yss i k hi hk, pt_opRows f q xss yss _ k (by omega) hk, h, g]
theorem sumK_opRows {f : Int → Int → Int} (hf : ∀ a b c d, f (a + b) (c + d) = f a c + f b d) (h0 : f 0 0 = 0) (q : Int) (xss yss : List (List Int)) (but : Int) : ∀ n, n ≤ 4 → sumK (opRows f q xss yss) but n % q = f (sumK xss but n) (sumK yss but n) % q
  | 0, _ => by simp [sumK, h0]
  | n + 1, hn => by
    have h1 := knower_le n but
    simp only [sumK]
    rw [pt_opRows f q xss yss _ n (by omega) (by omega), hf, Int.add_emod_emod, ← Int.emod_add_emod, sumK_opRows hf h0 q xss yss but n (by omega), Int.emod_add_emod]
theorem value_opRows {f : Int → Int → Int} (hf : ∀ a b c d, f (a + b) (c + d) = f a c + f b d) (h0 : f 0 0 = 0) {q : Int} (hm : ∀ s t, f (s % q) (t % q) % q = f s t % q) {xss yss : List (List Int)} {but : Int} (hb : isBut but = true) (hx : mirC q xss = 0) (hy : mirC q yss = 0) (ax : alikeB xss but = true) (ay : alikeB yss but = true) :
    valueR q (opRows f q xss yss) but = ⟨0, f (valueR q xss but).xValue (valueR q yss but).xValue % q⟩ := by
  rw [valueR_ok (mirC_opRows f hx hy (by rw [h0]; simp)) hb (alike_opRows f q ax ay), valueR_ok hx hb ax, valueR_ok hy hb ay]
  dsimp only
  rw [sumK_opRows hf h0 q xss yss but 4 (Nat.le_refl _), hm]
theorem value_bd {q : Int} {xss : List (List Int)} {but : Int} (hx : mirC q xss = 0) : 0 ≤ (valueR q xss but).xValue ∧ (valueR q xss but).xValue < q := by
  have hq := (mirC_zero hx).1
  have hq0 : 0 < q := by rcases hq with e | e <;> omega
  unfold valueR
  rw [if_pos hx]
  split
  · split
    · exact ⟨Int.emod_nonneg _ (by omega), Int.emod_lt_of_pos _ hq0⟩
    · exact ⟨by simp, by simpa using hq0⟩
  · exact ⟨by simp, by simpa using hq0⟩
theorem isAlikeR_true {q : Int} {xss : List (List Int)} {but : Int} (h : isAlikeR q xss but = true) : mirC q xss = 0 ∧ isBut but = true ∧ alikeB xss but = true := by
  unfold isAlikeR at h
  simp only [Bool.and_eq_true, decide_eq_true_eq] at h
  exact ⟨h.1.1, h.1.2, h.2⟩
theorem value_code {q : Int} {xss : List (List Int)} {but : Int} (h : isAlikeR q xss but = true) : (valueR q xss but).xCode = 0 := by
  obtain ⟨a, b, c⟩ := isAlikeR_true h
  rw [valueR_ok a b c]
theorem scaleR_code {x : MMirror} {k : Int} (h : (scaleR x k).xCode = 0) : mirC x.xQ x.xViews = 0 ∧ 0 ≤ k ∧ k < x.xQ := by
  unfold scaleR at h
  split at h
  · split at h
    · exact ⟨‹_›, ‹_›⟩
    · cases h
  · rename_i h1
    exact absurd h h1
theorem joinR_code {f : Int → Int → Int} {x y : MMirror} (h : (joinR f x y).xCode = 0) : mirC x.xQ x.xViews = 0 ∧ mirC y.xQ y.xViews = 0 ∧ x.xQ = y.xQ := by
  unfold joinR at h
  split at h
  · exact bothC_zero ‹_›
  · rename_i h1
    exact absurd h h1
theorem joinR_bad (f g : Int → Int → Int) (x y : MMirror) : (joinR f x y).xCode = (joinR g x y).xCode := by
  unfold joinR
  split <;> rfl
theorem joinR_ok (f : Int → Int → Int) {x y : MMirror} (h1 : mirC x.xQ x.xViews = 0) (h2 : mirC y.xQ y.xViews = 0) (h3 : x.xQ = y.xQ) : joinR f x y = ⟨0, ⟨x.xQ, opRows f x.xQ x.xViews y.xViews⟩⟩ := if_pos (bothC_ok h1 h2 h3)
end Go.Proofs.YtepobckhfodngacGreat
