/-
  The plain part of chapter 3's laws: what mirrors that were made are worth.
-/
import Derived.Test.YtepobckhfodngabGreatMirP
namespace Go.Proofs.YtepobckhfodngabGreat
set_option linter.unusedVariables false

def sum4 (xs : List Int) : Int := xs.getD 0 0 + xs.getD 1 0 + xs.getD 2 0 + xs.getD 3 0
theorem pt_mirRows {xs : List Int} (h : xs.length = 4) (i j : Nat) (hi : i < 4) : pt (mirRows xs) i j = if i = j then 0 else xs.getD j 0 := by
  unfold pt
  rw [mirRows_getD h i hi]
  by_cases e : i = j
  · subst e
    have : i < xs.length := by omega
    simp [this]
  · simp [List.getD_eq_getElem?_getD, List.getElem?_set_ne e, e]
theorem okV_set {q : Int} {xs : List Int} (hq : isQ q) (h : okV q xs = true) (i : Nat) (y : Int) (hy : 0 ≤ y) (hy' : y < q) : okV q (xs.set i y) = true := by
  rw [okV_iff] at h ⊢
  intro j hj
  rw [List.length_set] at hj
  have := h j hj
  by_cases e : i = j
  · subst e
    simpa [hj] using ⟨hy, hy'⟩
  · simpa [List.getD_eq_getElem?_getD, List.getElem?_set_ne e] using this
theorem mirC_mirRows {q : Int} {xs : List Int} (hq : isQ q) (h4 : xs.length = 4) (h : okV q xs = true) : mirC q (mirRows xs) = 0 := by
  have hs := mirRows_sq h4
  have hq0 : 0 < q := by rcases hq with e | e <;> omega
  refine mirC_ok hq hs.1 (viewsC_all q _ fun j hj => ?_) ((ownB_iff _).2 fun i hi => ?_)
  · rw [hs.1] at hj
    rw [mirRows_getD h4 j hj]
    exact viewC_ok (by simp [h4]) (okV_set hq h j 0 (by omega) hq0)
  · have := pt_mirRows h4 i i hi
    rw [if_pos rfl] at this
    exact this
theorem alike_mirRows {xs : List Int} (h4 : xs.length = 4) (but : Int) : alikeB (mirRows xs) but = true := by
  rw [alikeB_iff]
  intro k hk i hi
  by_cases e : i = k
  · exact .inl e
  · refine .inr (.inr ?_)
    have h1 := knower_le k but
    have h2 := (knower_ne k but).1
    rw [pt_mirRows h4 i k hi, pt_mirRows h4 _ k (by omega), if_neg e, if_neg h2]
theorem sumK_mirRows {xs : List Int} (h4 : xs.length = 4) (but : Int) : sumK (mirRows xs) but 4 = sum4 xs := by
  have key : ∀ k, pt (mirRows xs) (knower k but) k = xs.getD k 0 := fun k => by
    have h1 := knower_le k but
    have h2 := (knower_ne k but).1
    rw [pt_mirRows h4 _ k (by omega), if_neg h2]
  simp only [sumK, key, sum4]
  omega
theorem value_mirRows {q : Int} {xs : List Int} (but : Int) (hq : isQ q) (h4 : xs.length = 4) (h : okV q xs = true) (hb : isBut but = true) : valueR q (mirRows xs) but = ⟨0, sum4 xs % q⟩ := by
  rw [valueR_ok (mirC_mirRows hq h4 h) hb (alike_mirRows h4 but), sumK_mirRows h4]
theorem isAlike_mirRows {q : Int} {xs : List Int} (but : Int) (hq : isQ q) (h4 : xs.length = 4) (h : okV q xs = true) (hb : isBut but = true) : isAlikeR q (mirRows xs) but = true := by
  unfold isAlikeR
  rw [mirC_mirRows hq h4 h, hb, alike_mirRows h4 but]
  rfl
theorem mirrorOfR_code {q : Int} {xs : List Int} (h : (mirrorOfR q xs).xCode = 0) : isQ q ∧ xs.length = 4 ∧ okV q xs = true := by
  unfold mirrorOfR at h
  split at h
  · split at h
    · split at h
      · exact ⟨‹_›, ‹_›, ‹_›⟩
      · cases h
    · cases h
  · cases h
theorem mirrorOfR_ok {q : Int} {xs : List Int} (hq : isQ q) (h4 : xs.length = 4) (h : okV q xs = true) : mirrorOfR q xs = ⟨0, ⟨q, mirRows xs⟩⟩ := by unfold mirrorOfR; rw [if_pos hq, if_pos h4, if_pos h]
theorem mirRows_set_row {xs : List Int} (h4 : xs.length = 4) (p : Nat) (hp : p < 4) (y : Int) : (mirRows (xs.set p y)).getD p [] = (mirRows xs).getD p [] := by
  rw [mirRows_getD (by simp [h4]) p hp, mirRows_getD h4 p hp, List.set_set]
theorem sum4_set {xs : List Int} (h4 : xs.length = 4) (p : Nat) (hp : p < 4) (y : Int) : sum4 (xs.set p y) = sum4 xs - xs.getD p 0 + y := by
  obtain ⟨a, b, c, d, rfl⟩ := four xs h4
  obtain rfl | rfl | rfl | rfl : p = 0 ∨ p = 1 ∨ p = 2 ∨ p = 3 := by omega
  all_goals
    simp [sum4] <;> omega
theorem want_back (q s x y : Int) (h : 0 ≤ y) (h' : y < q) : (s - x + (x + y - s % q) % q) % q = y := by
  have e : s = q * (s / q) + s % q := (Int.mul_ediv_add_emod s q).symm
  rw [Int.add_emod_emod, show s - x + (x + y - s % q) = y + q * (s / q) by omega, Int.add_mul_emod_self_left, Int.emod_eq_of_lt h h']
end Go.Proofs.YtepobckhfodngabGreat
