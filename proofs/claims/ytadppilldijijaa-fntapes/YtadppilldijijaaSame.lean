/-
  Lists and tapes that are held against each other: the library's functions at these types, the program's, and its model's.
-/
import Derived.Test.YtadppilldijijaaTy
import Derived.Deep.QuietTactic
import Derived.BigQuiet
import Derived.WalkSpells
namespace Go.Proofs.Ytadppilldijijaa
open Go.ChangeShapes Go.WideShapes Go.ChangeAt Go.RowKit
set_option linter.unusedVariables false

def sameL (xs ys : List Int) : Bool := decide (xs = ys)
def sameM (xs ys : List (List Int)) : Bool := decide (xs = ys)
theorem sameL_len {xs ys : List Int} (h : ¬ xs.length = ys.length) : sameL xs ys = false := by
  unfold sameL
  simp only [decide_eq_false_iff_not]
  exact fun e => h (by rw [e])
theorem sameL_at {xs ys : List Int} {k : Nat} (h : ¬ xs.getD k 0 = ys.getD k 0) : sameL xs ys = false := by
  unfold sameL
  simp only [decide_eq_false_iff_not]
  exact fun e => h (by rw [e])
theorem ext_getD {α : Type} (d : α) {xs ys : List α} (hl : xs.length = ys.length) (h : ∀ q, q < xs.length → xs.getD q d = ys.getD q d) : xs = ys := by
  refine List.ext_getElem hl fun i h1 h2 => ?_
  have := h i h1
  simpa [h1, h2] using this
theorem sameL_all {xs ys : List Int} (hl : xs.length = ys.length) (h : ∀ q, q < xs.length → xs.getD q 0 = ys.getD q 0) : sameL xs ys = true := by
  unfold sameL
  exact decide_eq_true (ext_getD 0 hl h)
theorem sameM_len {xs ys : List (List Int)} (h : ¬ xs.length = ys.length) : sameM xs ys = false := by
  unfold sameM
  simp only [decide_eq_false_iff_not]
  exact fun e => h (by rw [e])
theorem sameM_at {xs ys : List (List Int)} {k : Nat} (h : sameL (xs.getD k []) (ys.getD k []) = false) : sameM xs ys = false := by
  unfold sameM
  unfold sameL at h
  simp only [decide_eq_false_iff_not] at h ⊢
  exact fun e => h (by rw [e])
theorem sameM_all {xs ys : List (List Int)} (hl : xs.length = ys.length) (h : ∀ q, q < xs.length → sameL (xs.getD q []) (ys.getD q []) = true) : sameM xs ys = true := by
  unfold sameM
  exact decide_eq_true (ext_getD [] hl (fun q hq => by have := h q hq; unfold sameL at this; simpa using this))

set_option maxHeartbeats 1000000 in
theorem slices_Equal (v u : Value) (xs ys : List Int) (w : World) (hv : Reads w .i64 v xs) (hu : Reads w .i64 u ys) :
    Calls Try.prog 89 #[v, u] w fun e w' => e = .returned (.bool (sameL xs ys)) ∧ Below w.heap.size w w' := by
  obtain ⟨a, ca, rfl, hm, hA⟩ := hv
  obtain ⟨b, cb, rfl, hm2, hB⟩ := hu
  unfold maxLen at hm hm2
  by_cases hl : xs.length = ys.length
  · have HE : Hid (xs.length = ys.length) := hl
    rw [← hl]
    rw [← hl] at hB
    clear hl hm2
    by_cases hx : xs = []
    · have hy : ys = [] := List.eq_nil_of_length_eq_zero (by rw [← HE.out, hx]; rfl)
      subst hx
      subst hy
      simp only [List.length_nil]
      clear hA hB hm
      go_enter Try.func89, Try.ntmps89
      go_wp2
      refine wp_loop_rounds 1 ?_
      rw [rounds_succ]
      go_wp2
      go_ret
      exact ⟨rfl, Below.refl _ _⟩
    · obtain ⟨ga, oa, rfl, hla, cA⟩ := hA hx
      obtain ⟨gb, ob, rfl, hlb, cB⟩ := hB (fun h => hx (List.eq_nil_of_length_eq_zero (by rw [HE.out, h]; rfl)))
      clear hA hB
      generalize hn : xs.length = n at *
      have HN : Hid (xs.length = n) := hn
      clear hn
      go_enter Try.func89, Try.ntmps89
      go_wp2
      go_loopw [5, 13] (fun _ i wr => ∃ k : Nat, k ≤ n ∧ i = .int .i64 k ∧ (∀ q, q < k → xs.getD q 0 = ys.getD q 0) ∧ Below w.heap.size w wr) (fun _ i _ => n - (intOf i).toNat)
      case atStart => exact ⟨0, Nat.zero_le _, rfl, fun q hq => by omega, Below.refl _ _⟩
      case round =>
        obtain ⟨k, hk, rfl, hq, hbel⟩ := hrel
        have HQ : Hid (∀ q, q < k → xs.getD q 0 = ys.getD q 0) := hq
        clear hq
        by_cases hlt : k < n
        · have c1 : wr.cell? ⟨ga, oa + k, none⟩ = some (.int .i64 (xs.getD k 0)) := (hbel.cell (p := ⟨ga, oa + k, none⟩) hla).trans (cA k hlt)
          have c2 : wr.cell? ⟨gb, ob + k, none⟩ = some (.int .i64 (ys.getD k 0)) := (hbel.cell (p := ⟨gb, ob + k, none⟩) hlb).trans (cB k (by have := HE.out; have := HN.out; omega))
          have hi : (k : Int) < (n : Int) := by omega
          have hi0 : (0 : Int) ≤ (k : Int) := by omega
          by_cases he : xs.getD k 0 = ys.getD k 0
          · have HQ' : Hid (∀ q, q < k + 1 → xs.getD q 0 = ys.getD q 0) := fun q hq => by
              rcases Nat.lt_or_ge q k with h | h
              · exact HQ.out q h
              · rw [show q = k by omega]; exact he
            rw [← he] at c2
            clear cA cB he
            generalize xs.getD k 0 = y at *
            go_wp2
            go_quiet (fail)
            go_wp2
            go_roundw
            case rel => exact ⟨k + 1, by omega, by go_num, HQ'.out, below_drewN hbel _⟩
            case measure => simp [intOf]; omega
          · have hne : (xs.getD k 0 != ys.getD k 0) = true := by simpa using he
            have HN' : Hid (sameL xs ys = false) := sameL_at (k := k) he
            clear cA cB
            generalize xs.getD k 0 = y at *
            generalize ys.getD k 0 = z at *
            go_wp2
            go_quiet (fail)
            go_wp2
            go_ret
            exact ⟨by rw [HN'.out]; rfl, below_drewN hbel _⟩
        · have HN' : Hid (sameL xs ys = true) := sameL_all (HN.out.trans HE.out) (fun q hq => HQ.out q (by have := HN.out; omega))
          clear cA cB
          go_wp2
          go_ret
          exact ⟨by rw [HN'.out]; rfl, hbel⟩
  · have HN' : Hid (sameL xs ys = false) := sameL_len hl
    have hne : ((xs.length : Int) != (ys.length : Int)) = true := by simp; omega
    clear hA hB
    go_enter Try.func89, Try.ntmps89
    go_wp2
    go_ret
    exact ⟨by rw [HN'.out]; rfl, Below.refl _ _⟩
set_option maxHeartbeats 1000000 in
theorem slices_EqualFunc (v u : Value) (xss yss : List (List Int)) (w : World) (hv : ReadsM w v xss) (hu : ReadsM w u yss) :
    Calls Try.prog 88 #[v, u, .func (.func 89) #[] #[]] w fun e w' => e = .returned (.bool (sameM xss yss)) ∧ Below w.heap.size w w' := by
  obtain ⟨a, ca, rfl⟩ := hv.shp
  obtain ⟨b, cb, rfl⟩ := hu.shp
  have hm : xss.length ≤ maxLen := by obtain ⟨_, _, _, h, _⟩ := hv; exact h
  have hm2 : yss.length ≤ maxLen := by obtain ⟨_, _, _, h, _⟩ := hu; exact h
  unfold maxLen at hm hm2
  by_cases hl : xss.length = yss.length
  · have HE : Hid (xss.length = yss.length) := hl
    have hu' : ReadsM w (.slice b xss.length cb) yss := by rw [hl]; exact hu
    rw [← hl]
    clear hl hm2 hu
    by_cases hx : xss.length = 0
    · rw [hx]
      have hx' : xss = [] := List.eq_nil_of_length_eq_zero hx
      have hy' : yss = [] := List.eq_nil_of_length_eq_zero (by rw [← HE.out, hx])
      have HN' : Hid (sameM xss yss = true) := by show _ = _; rw [hx', hy']; rfl
      clear hx hx' hy' hv hu' hm
      go_enter Try.func88, Try.ntmps88
      go_wp2
      refine wp_loop_rounds 1 ?_
      rw [rounds_succ]
      go_wp2
      go_ret
      exact ⟨by rw [HN'.out]; rfl, Below.refl _ _⟩
    · generalize hn : xss.length = n at *
      have HN : Hid (xss.length = n) := hn
      clear hn
      go_enter Try.func88, Try.ntmps88
      go_wp2
      go_loopw [7, 8, 9, 17] (fun _ _ _ i wr => ∃ k : Nat, k ≤ n ∧ i = .int .i64 k ∧ (∀ q, q < k → sameL (xss.getD q []) (yss.getD q []) = true) ∧ Below w.heap.size w wr) (fun _ _ _ i _ => n - (intOf i).toNat)
      case atStart => exact ⟨0, Nat.zero_le _, rfl, fun q hq => by omega, Below.refl _ _⟩
      case round =>
        obtain ⟨k, hk, rfl, hq, hbel⟩ := hrel
        have HQ : Hid (∀ q, q < k → sameL (xss.getD q []) (yss.getD q []) = true) := hq
        clear hq
        by_cases hlt : k < n
        · have e1 : ReadsM wr (.slice a xss.length ca) xss := by rw [HN.out]; exact hv.below hbel
          have e2 : ReadsM wr (.slice b yss.length cb) yss := by rw [← HE.out]; exact hu'.below hbel
          obtain ⟨ga, oa, pa, da, rfl, hla, c1, r1⟩ := e1.lane k (by rw [HN.out]; exact hlt)
          obtain ⟨gb, ob, pb, db, rfl, hlb, c2, r2⟩ := e2.lane k (by rw [← HE.out]; exact hlt)
          clear e1 e2
          have hi : (k : Int) < (n : Int) := by omega
          have hi0 : (0 : Int) ≤ (k : Int) := by omega
          have K := fun w h1 h2 => slices_Equal (.slice pa (xss.getD k []).length da) (.slice pb (yss.getD k []).length db) (xss.getD k []) (yss.getD k []) w h1 h2
          cases hs : sameL (xss.getD k []) (yss.getD k []) with
          | true =>
            rw [hs] at K
            have HQ' : Hid (∀ q, q < k + 1 → sameL (xss.getD q []) (yss.getD q []) = true) := fun q hq => by
              rcases Nat.lt_or_ge q k with h | h
              · exact HQ.out q h
              · rw [show q = k by omega]; exact hs
            clear hs
            generalize xss.getD k [] = xs at *
            generalize yss.getD k [] = ys at *
            go_wp2_with fail
            refine (K _ r1 r2).mono ?_
            rintro e w2 ⟨rfl, hb2⟩
            have hb3 := hbel.trans (hb2.mono hbel.size)
            go_wp2
            go_roundw
            case rel => exact ⟨k + 1, by omega, by go_num, HQ'.out, hb3⟩
            case measure => simp [intOf]; omega
          | false =>
            rw [hs] at K
            have HN' : Hid (sameM xss yss = false) := sameM_at hs
            clear hs
            generalize xss.getD k [] = xs at *
            generalize yss.getD k [] = ys at *
            go_wp2_with fail
            refine (K _ r1 r2).mono ?_
            rintro e w2 ⟨rfl, hb2⟩
            have hb3 := hbel.trans (hb2.mono hbel.size)
            go_wp2
            go_ret
            exact ⟨by rw [HN'.out]; rfl, hb3⟩
        · have HN' : Hid (sameM xss yss = true) := sameM_all (HN.out.trans HE.out) (fun q hq => HQ.out q (by have := HN.out; omega))
          go_wp2
          go_ret
          exact ⟨by rw [HN'.out]; rfl, hbel⟩
  · have HN' : Hid (sameM xss yss = false) := sameM_len hl
    have hne : ((xss.length : Int) != (yss.length : Int)) = true := by simp; omega
    go_enter Try.func88, Try.ntmps88
    go_wp2
    go_ret
    exact ⟨by rw [HN'.out]; rfl, Below.refl _ _⟩
set_option maxHeartbeats 1000000 in
theorem impl_SameTapes (v u : Value) (xss yss : List (List Int)) (w : World) (hv : RdTape w v xss) (hu : RdTape w u yss) :
    Calls Try.prog 37 #[v, u] w fun e w' => e = .returned (.bool (sameM xss yss)) ∧ Below w.heap.size w w' := by
  obtain ⟨p, c, rfl, hv⟩ := hv
  obtain ⟨q, d, rfl, hu⟩ := hu
  have B0 : Below w.heap.size w ((w.alloc (.cells #[.slice p xss.length c] 42)).alloc (.cells #[.slice q yss.length d] 42)) := (by repeat (first | exact Below.refl _ _ | refine Below.drew ?_ | refine below_drewN ?_ _ | refine Below.setCell ?_ (by first | omega | (simp; done) | (simp; omega)) _ | refine Below.alloc ?_ (by first | omega | (simp; done) | (simp; omega)) _))
  go_enter Try.func37, Try.ntmps37
  go_wp2_with fail
  refine (slices_EqualFunc _ _ xss yss _ (hv.below B0) (hu.below B0)).mono ?_
  rintro e w1 ⟨rfl, hb1⟩
  go_wp2
  go_ret
  exact ⟨rfl, B0.trans (hb1.mono B0.size)⟩
end Go.Proofs.Ytadppilldijijaa
