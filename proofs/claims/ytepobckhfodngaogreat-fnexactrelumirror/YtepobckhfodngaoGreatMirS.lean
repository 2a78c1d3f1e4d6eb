/-
  Contracts of chapter 3's model: faults of mirrors.
-/
import Derived.Test.YtepobckhfodngaoGreatTy
import Derived.Test.YtepobckhfodngaoGreatRing
import Derived.Deep.RegionHeld3
namespace Go.Proofs.YtepobckhfodngaoGreat
open Go.ChangeShapes Go.WideShapes Go.ChangeAt Go.RowKit
set_option linter.unusedVariables false

abbrev isQ (q : Int) : Prop := q = 2 ∨ q = 256
def okV (q : Int) (xs : List Int) : Bool := xs.all (fun x => decide (0 ≤ x ∧ x < q))
theorem okV_iff (q : Int) (xs : List Int) : okV q xs = true ↔ ∀ j, j < xs.length → 0 ≤ xs.getD j 0 ∧ xs.getD j 0 < q := by
  unfold okV
  rw [List.all_eq_true]
  constructor
  · intro h j hj
    have := h xs[j] (List.getElem_mem hj)
    simp only [decide_eq_true_eq] at this
    simpa [hj] using this
  · intro h x hx
    obtain ⟨j, hj, rfl⟩ := List.getElem_of_mem hx
    have := h j hj
    simpa [hj] using this
/-- the code of one view -/
def viewC (q : Int) (xs : List Int) : Int := if xs.length = 4 then (if okV q xs = true then 0 else 3) else 1
def viewsC (q : Int) : List (List Int) → Int
  | [] => 0
  | xs :: r => if viewC q xs = 0 then viewsC q r else viewC q xs
/-- each one's own part is 0 -/
def ownB (xss : List (List Int)) : Bool := (List.range 4).all (fun i => decide ((xss.getD i []).getD i 0 = 0))
/-- the code of a mirror -/
def mirC (q : Int) (xss : List (List Int)) : Int := if isQ q then (if xss.length = 4 then (if viewsC q xss = 0 then (if ownB xss = true then 0 else 1) else viewsC q xss) else 1) else 3
theorem viewsC_all (q : Int) : ∀ xss : List (List Int), (∀ j, j < xss.length → viewC q (xss.getD j []) = 0) → viewsC q xss = 0
  | [], _ => rfl
  | xs :: r, h => by
    have h0 := h 0 (by simp)
    simp only [List.getD_cons_zero] at h0
    rw [viewsC, if_pos h0]
    exact viewsC_all q r fun j hj => by have := h (j + 1) (by simp; omega); simpa using this
theorem viewsC_first (q : Int) : ∀ (xss : List (List Int)) (k : Nat), k < xss.length → (∀ j, j < k → viewC q (xss.getD j []) = 0) → viewC q (xss.getD k []) ≠ 0 → viewsC q xss = viewC q (xss.getD k [])
  | [], k, hk, _, _ => by simp at hk
  | xs :: r, 0, _, _, h => by simp only [List.getD_cons_zero] at h ⊢; rw [viewsC, if_neg h]
  | xs :: r, k + 1, hk, ha, h => by
    have h0 := ha 0 (by omega)
    simp only [List.getD_cons_zero] at h0
    rw [viewsC, if_pos h0]
    simp only [List.getD_cons_succ] at h ⊢
    exact viewsC_first q r k (by simpa using hk) (fun j hj => by have := ha (j + 1) (by omega); simpa using this) h
theorem viewC_form {q : Int} {xs : List Int} (h : ¬ xs.length = 4) : viewC q xs = 1 := if_neg h
theorem viewC_ok {q : Int} {xs : List Int} (h : xs.length = 4) (k : okV q xs = true) : viewC q xs = 0 := by unfold viewC; rw [if_pos h, if_pos k]
theorem viewC_bad {q : Int} {xs : List Int} (h : xs.length = 4) (k : ¬ okV q xs = true) : viewC q xs = 3 := by unfold viewC; rw [if_pos h, if_neg k]
theorem viewC_zero {q : Int} {xs : List Int} (h : viewC q xs = 0) : xs.length = 4 ∧ ∀ j, 0 ≤ xs.getD j 0 ∧ (isQ q → xs.getD j 0 < q) := by
  unfold viewC at h
  split at h
  · rename_i h4
    split at h
    · rename_i hk
      refine ⟨h4, fun j => ?_⟩
      by_cases hj : j < xs.length
      · have := (okV_iff q xs).1 hk j hj; exact ⟨this.1, fun _ => this.2⟩
      · rw [show xs.getD j 0 = 0 by simp [List.getD_eq_getElem?_getD, List.getElem?_eq_none (Nat.le_of_not_lt hj)]]
        exact ⟨by omega, fun h => by rcases h with rfl | rfl <;> omega⟩
    · cases h
  · cases h
theorem viewsC_zero {q : Int} : ∀ {xss : List (List Int)}, viewsC q xss = 0 → ∀ j, j < xss.length → viewC q (xss.getD j []) = 0
  | [], _, j, hj => by simp at hj
  | xs :: r, h, 0, _ => by
    rw [viewsC] at h
    split at h
    · simpa using ‹_›
    · contradiction
  | xs :: r, h, j + 1, hj => by
    rw [viewsC] at h
    split at h
    · simpa using viewsC_zero h j (by simpa using hj)
    · contradiction
theorem mirC_q {q : Int} {xss : List (List Int)} (h : ¬ isQ q) : mirC q xss = 3 := if_neg h
theorem mirC_form {q : Int} {xss : List (List Int)} (h : isQ q) (k : ¬ xss.length = 4) : mirC q xss = 1 := by unfold mirC; rw [if_pos h, if_neg k]
theorem mirC_views {q : Int} {xss : List (List Int)} (h : isQ q) (k : xss.length = 4) (m : viewsC q xss ≠ 0) : mirC q xss = viewsC q xss := by unfold mirC; rw [if_pos h, if_pos k, if_neg m]
theorem mirC_own {q : Int} {xss : List (List Int)} (h : isQ q) (k : xss.length = 4) (m : viewsC q xss = 0) (b : ¬ ownB xss = true) : mirC q xss = 1 := by unfold mirC; rw [if_pos h, if_pos k, if_pos m, if_neg b]
theorem mirC_ok {q : Int} {xss : List (List Int)} (h : isQ q) (k : xss.length = 4) (m : viewsC q xss = 0) (b : ownB xss = true) : mirC q xss = 0 := by unfold mirC; rw [if_pos h, if_pos k, if_pos m, if_pos b]
theorem ownB_iff (xss : List (List Int)) : ownB xss = true ↔ ∀ i, i < 4 → (xss.getD i []).getD i 0 = 0 := by
  unfold ownB
  rw [List.all_eq_true]
  exact ⟨fun h i hi => by simpa using h i (List.mem_range.2 hi), fun h i hi => by simpa using h i (List.mem_range.1 hi)⟩
/-- what a mirror without a fault is made of -/
theorem mirC_zero {q : Int} {xss : List (List Int)} (h : mirC q xss = 0) : isQ q ∧ xss.length = 4 ∧ (∀ i, i < 4 → (xss.getD i []).length = 4) ∧ (∀ i j, 0 ≤ (xss.getD i []).getD j 0 ∧ (xss.getD i []).getD j 0 < q) ∧ ∀ i, i < 4 → (xss.getD i []).getD i 0 = 0 := by
  unfold mirC at h
  split at h
  · rename_i hq
    split at h
    · rename_i h4
      split at h
      · rename_i hv
        split at h
        · rename_i hb
          refine ⟨hq, h4, fun i hi => (viewC_zero (viewsC_zero hv i (by omega))).1, fun i j => ?_, (ownB_iff xss).1 hb⟩
          by_cases hi : i < xss.length
          · have := (viewC_zero (viewsC_zero hv i hi)).2 j; exact ⟨this.1, this.2 hq⟩
          · have e : xss.getD i [] = [] := by simp [List.getD_eq_getElem?_getD, List.getElem?_eq_none (Nat.le_of_not_lt hi)]
            rw [e]
            simp
            rcases hq with rfl | rfl <;> omega
        · cases h
      · contradiction
    · cases h
  · cases h
set_option maxHeartbeats 4000000 in
set_option maxRecDepth 100000 in
theorem spec_l3Fault (b : Nat) (q : Int) (v : Value) (xss : List (List Int)) (w : World) (hb : Blk w b 36 #[.int .i64 q, v]) (hv : ReadsM w v xss) :
    Calls Tryz.prog 59 #[.pointer (some ⟨b, 0, none⟩)] w fun e w' => e = .returned (.int .i64 (mirC q xss)) ∧ Below w.heap.size w w' := by
  obtain ⟨p, c, rfl⟩ := hv.shp
  have hm : xss.length ≤ maxLen := by obtain ⟨_, _, _, h, _⟩ := hv; exact h
  unfold maxLen at hm
  have ba := hb.at.1
  by_cases hq : isQ q
  · by_cases h4 : xss.length = 4
    · have HL : Hid (xss.length = 4) := h4
      have hl : ∀ W, ReadsM W (.slice p xss.length c) xss → ∀ k, k < 4 → _ := fun W h k hk => h.lane k (by omega)
      have HV : Hid (ReadsM w (.slice p xss.length c) xss) := hv
      rw [h4] at hb ba
      clear h4 hm hv
      go_enter Tryz.func59, Tryz.ntmps59
      go_wp2_with fail
      refine (spec_l1Ring_yes _ _ hq).mono ?_
      rintro e w' ⟨rfl, rfl⟩
      go_wp2_with fail
      go_loopw [3, 4, 5] (fun i _ _ wr => ∃ k : Nat, k ≤ 4 ∧ i = .int .i64 k ∧ (∀ j, j < k → viewC q (xss.getD j []) = 0) ∧ Below w.heap.size w wr) (fun i _ _ _ => 4 - (intOf i).toNat)
      case atStart => exact ⟨0, Nat.zero_le _, rfl, fun j hj => by omega, Below.refl _ _⟩
      case round =>
        obtain ⟨k, hk, rfl, hg, B⟩ := hrel
        have HG : Hid (∀ j, j < k → viewC q (xss.getD j []) = 0) := hg
        clear hg ba
        have X := hb.below B hb.lt
        have ba := X.at.1
        by_cases hlt : k < 4
        · obtain ⟨gb, off, pq, dq, rfl, hltb, c1, r1⟩ := HV.out.lane k (by rw [HL.out]; exact hlt)
          have c1r : wr.cell? ⟨gb, off + k, none⟩ = some (.slice pq (xss.getD k []).length dq) := (B.cell (p := ⟨gb, off + k, none⟩) hltb).trans c1
          have r1r := r1.below B
          have HR : Hid (Reads w .i64 (.slice pq (xss.getD k []).length dq) (xss.getD k [])) := r1
          have HF := fun h => viewsC_first q xss k (by rw [HL.out]; exact hlt) HG.out h
          have hi : (k : Int) < 4 := by omega
          clear c1 r1
          generalize hys : xss.getD k [] = ys at *
          have HY : Hid (xss.getD k [] = ys) := hys
          clear hys
          have hyl := r1r.le
          unfold maxLen at hyl
          by_cases hy4 : ys.length = 4
          · have HY4 : Hid (ys.length = 4) := hy4
            rw [hy4] at c1r r1r HR
            clear hy4 hyl r1r
            obtain ⟨wo, ewo⟩ : ∃ x : World, x = wr := ⟨_, rfl⟩
            subst ewo
            go_wp2_with fail
            go_loopw [5] (fun i wr => ∃ m : Nat, m ≤ 4 ∧ i = .int .i64 m ∧ (∀ j, j < m → 0 ≤ ys.getD j 0 ∧ ys.getD j 0 < q) ∧ Below w.heap.size w wr) (fun i _ => 4 - (intOf i).toNat)
            case atStart => exact ⟨0, Nat.zero_le _, rfl, fun j hj => by omega, B⟩
            case round =>
              obtain ⟨m, hm, rfl, ha, B2⟩ := hrel
              have HA : Hid (∀ j, j < m → 0 ≤ ys.getD j 0 ∧ ys.getD j 0 < q) := ha
              clear ha ba X
              have X2 := hb.below B2 hb.lt
              have ba := X2.at.1
              by_cases hlt2 : m < 4
              · obtain ⟨g2, o2, rfl, hl2, d1⟩ := (HR.out.below B2).one m (by rw [HY4.out]; exact hlt2)
                have hi2 : (m : Int) < 4 := by omega
                have hi20 : (0 : Int) ≤ (m : Int) := by omega
                have hS : (∀ o, wr.cell? ⟨b, o, none⟩ = (#[.int .i64 q, .slice (some ⟨gb, off, none⟩) 4 c] : Array Value)[o]?) ∧ wr.cell? ⟨g2, o2 + m, none⟩ = some (.int .i64 (ys.getD m 0)) := ⟨ba, d1⟩
                by_cases hgood : 0 ≤ ys.getD m 0 ∧ ys.getD m 0 < q
                · have HA' : Hid (∀ j, j < m + 1 → 0 ≤ ys.getD j 0 ∧ ys.getD j 0 < q) := fun j hj => by
                    rcases Nat.lt_or_ge j m with h | h
                    · exact HA.out j h
                    · rw [show j = m by omega]; exact hgood
                  clear HF
                  generalize ys.getD m 0 = y at *
                  go_wp2_with fail
                  go_region_held3 (fun V => (∀ o, V.cell? ⟨b, o, none⟩ = (#[.int .i64 q, .slice (some ⟨gb, off, none⟩) 4 c] : Array Value)[o]?) ∧ V.cell? ⟨g2, o2 + m, none⟩ = some (.int .i64 y)) (exact hS) (first | (go_at_call 83; refine (spec_l1Has_yes _ _ _ (by rcases hq with h | h <;> omega) (by rcases hq with h | h <;> omega) hgood.1 hgood.2).mono ?_; rintro e w9 ⟨rfl, rfl⟩))
                  go_wp2
                  go_roundw
                  case rel => exact ⟨m + 1, by omega, by go_num, HA'.out, B2.drew⟩
                  case measure => simp [intOf]; omega
                · have hbad : ¬ okV q ys = true := fun h => hgood ((okV_iff q ys).1 h m (by rw [HY4.out]; exact hlt2))
                  have hF := HF (by rw [viewC_bad HY4.out hbad]; omega)
                  rw [viewC_bad HY4.out hbad] at hF
                  have HN : Hid (mirC q xss = 3) := (mirC_views hq HL.out (by rw [hF]; omega)).trans hF
                  clear hF HF hbad
                  generalize ys.getD m 0 = y at *
                  go_wp2_with fail
                  go_region_held3 (fun V => (∀ o, V.cell? ⟨b, o, none⟩ = (#[.int .i64 q, .slice (some ⟨gb, off, none⟩) 4 c] : Array Value)[o]?) ∧ V.cell? ⟨g2, o2 + m, none⟩ = some (.int .i64 y)) (exact hS) (first | (go_at_call 83; refine (spec_l1Has_no _ _ _ (by rcases hq with h | h <;> omega) (by rcases hq with h | h <;> omega) (by omega)).mono ?_; rintro e w9 ⟨rfl, rfl⟩))
                  go_wp2
                  go_ret
                  exact ⟨by rw [HN.out]; rfl, B2.drew⟩
              · obtain rfl : m = 4 := by omega
                have hok : okV q ys = true := (okV_iff q ys).2 fun j hj => HA.out j (by rw [HY4.out] at hj; exact hj)
                have HG' : Hid (∀ j, j < k + 1 → viewC q (xss.getD j []) = 0) := fun j hj => by
                  rcases Nat.lt_or_ge j k with h | h
                  · exact HG.out j h
                  · rw [show j = k by omega, HY.out]; exact viewC_ok HY4.out hok
                clear HF hok
                go_wp2
                go_roundw
                case rel => exact ⟨k + 1, by omega, by go_num, HG'.out, B2⟩
                case measure => simp [intOf]; omega
          · have hF := HF (by rw [viewC_form hy4]; omega)
            rw [viewC_form hy4] at hF
            have HN : Hid (mirC q xss = 1) := (mirC_views hq HL.out (by rw [hF]; omega)).trans hF
            have hne : ((ys.length : Int) == 4) = false := by simp; omega
            clear hF HF r1r
            go_wp2
            go_ret
            exact ⟨by rw [HN.out]; rfl, B⟩
        · obtain rfl : k = 4 := by omega
          have HZ : Hid (viewsC q xss = 0) := viewsC_all q xss fun j hj => HG.out j (by rw [HL.out] at hj; exact hj)
          have HR4 : Hid (∀ j, j < 4 → (xss.getD j []).length = 4) := fun j hj => (viewC_zero (HG.out j hj)).1
          have HVr : Hid (ReadsM wr (.slice p xss.length c) xss) := HV.out.below B
          clear HG
          go_wp2_with fail
          go_loop [6] (fun i => ∃ m : Nat, m ≤ 4 ∧ i = .int .i64 m ∧ (∀ j, j < m → (xss.getD j []).getD j 0 = 0)) (fun i => 4 - (intOf i).toNat)
          case atStart => exact ⟨0, Nat.zero_le _, rfl, fun j hj => by omega⟩
          case round =>
            obtain ⟨m, hm, rfl, ha⟩ := hrel
            have HA : Hid (∀ j, j < m → (xss.getD j []).getD j 0 = 0) := ha
            clear ha
            by_cases hlt2 : m < 4
            · obtain ⟨gb, off, pq, dq, rfl, hltb, c1, r1⟩ := HVr.out.lane m (by rw [HL.out]; exact hlt2)
              rw [HR4.out m hlt2] at c1 r1
              obtain ⟨g2, o2, rfl, hl2, d1⟩ := r1.one m (by rw [HR4.out m hlt2]; exact hlt2)
              have hi2 : (m : Int) < 4 := by omega
              have hi20 : (0 : Int) ≤ (m : Int) := by omega
              clear r1
              by_cases h0 : (xss.getD m []).getD m 0 = 0
              · have HA' : Hid (∀ j, j < m + 1 → (xss.getD j []).getD j 0 = 0) := fun j hj => by
                  rcases Nat.lt_or_ge j m with h | h
                  · exact HA.out j h
                  · rw [show j = m by omega]; exact h0
                rw [h0] at d1
                clear h0
                go_wp2
                go_round
                case rel => exact ⟨m + 1, by omega, by go_num, HA'.out⟩
                case measure => simp [intOf]; omega
              · have HN : Hid (mirC q xss = 1) := mirC_own hq HL.out HZ.out (fun h => h0 ((ownB_iff xss).1 h m hlt2))
                have hne : ((xss.getD m []).getD m 0 == 0) = false := by simpa using h0
                clear h0
                generalize (xss.getD m []).getD m 0 = y at *
                go_wp2
                go_ret
                exact ⟨by rw [HN.out]; rfl, B⟩
            · obtain rfl : m = 4 := by omega
              have HN : Hid (mirC q xss = 0) := mirC_ok hq HL.out HZ.out ((ownB_iff xss).2 HA.out)
              go_wp2
              go_ret
              exact ⟨by rw [HN.out]; rfl, B⟩
    · have HN : Hid (mirC q xss = 1) := mirC_form hq h4
      have hne : ((xss.length : Int) == 4) = false := by simp; omega
      go_enter Tryz.func59, Tryz.ntmps59
      go_wp2_with fail
      refine (spec_l1Ring_yes _ _ hq).mono ?_
      rintro e w' ⟨rfl, rfl⟩
      go_wp2
      go_ret
      exact ⟨by rw [HN.out]; rfl, Below.refl _ _⟩
  · have HN : Hid (mirC q xss = 3) := mirC_q hq
    go_enter Tryz.func59, Tryz.ntmps59
    go_wp2_with fail
    refine (spec_l1Ring_no _ _ hq).mono ?_
    rintro e w' ⟨rfl, rfl⟩
    go_wp2
    go_ret
    exact ⟨by rw [HN.out]; rfl, Below.refl _ _⟩
end Go.Proofs.YtepobckhfodngaoGreat
