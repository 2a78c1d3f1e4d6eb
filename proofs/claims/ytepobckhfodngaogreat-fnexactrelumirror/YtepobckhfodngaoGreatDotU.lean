/-
  Faults of rows of products, in the program: mirrors one by one, each with its Q; and all that is asked of a row.
-/
import Derived.Test.YtepobckhfodngaoGreatMrS
import Derived.Test.YtepobckhfodngaoGreatMirI
import Derived.Test.YtepobckhfodngaoGreatJnN
namespace Go.Proofs.YtepobckhfodngaoGreat
open Go.ChangeShapes Go.WideShapes Go.ChangeAt Go.RowKit
set_option linter.unusedVariables false

/-- one by one: the fault, then the Q -/
def mirsC (q : Int) : List MMirror → Int
  | [] => 0
  | x :: r => if mirC x.xQ x.xViews = 0 then (if x.xQ = q then mirsC q r else 1) else mirC x.xQ x.xViews
def OkM (q : Int) (x : MMirror) : Prop := mirC x.xQ x.xViews = 0 ∧ x.xQ = q
theorem mirsC_all (q : Int) : ∀ xs : List MMirror, (∀ j, j < xs.length → OkM q (xs.getD j zM)) → mirsC q xs = 0
  | [], _ => rfl
  | x :: r, h => by
    have h0 := h 0 (by simp)
    simp only [List.getD_cons_zero] at h0
    rw [mirsC, if_pos h0.1, if_pos h0.2]
    exact mirsC_all q r fun j hj => by simpa using h (j + 1) (by simpa using hj)
theorem mirsC_fault (q : Int) : ∀ (xs : List MMirror) (k : Nat), k < xs.length → (∀ j, j < k → OkM q (xs.getD j zM)) → mirC (xs.getD k zM).xQ (xs.getD k zM).xViews ≠ 0 → mirsC q xs = mirC (xs.getD k zM).xQ (xs.getD k zM).xViews
  | [], k, hk, _, _ => by simp at hk
  | x :: r, 0, _, _, h => by simp only [List.getD_cons_zero] at h ⊢; rw [mirsC, if_neg h]
  | x :: r, k + 1, hk, ha, h => by
    have h0 := ha 0 (by omega)
    simp only [List.getD_cons_zero] at h0
    simp only [List.getD_cons_succ] at h ⊢
    rw [mirsC, if_pos h0.1, if_pos h0.2]
    exact mirsC_fault q r k (by simpa using hk) (fun j hj => by simpa using ha (j + 1) (by omega)) h
theorem mirsC_other (q : Int) : ∀ (xs : List MMirror) (k : Nat), k < xs.length → (∀ j, j < k → OkM q (xs.getD j zM)) → mirC (xs.getD k zM).xQ (xs.getD k zM).xViews = 0 → (xs.getD k zM).xQ ≠ q → mirsC q xs = 1
  | [], k, hk, _, _, _ => by simp at hk
  | x :: r, 0, _, _, h, g => by simp only [List.getD_cons_zero] at h g; rw [mirsC, if_pos h, if_neg g]
  | x :: r, k + 1, hk, ha, h, g => by
    have h0 := ha 0 (by omega)
    simp only [List.getD_cons_zero] at h0
    simp only [List.getD_cons_succ] at h g
    rw [mirsC, if_pos h0.1, if_pos h0.2]
    exact mirsC_other q r k (by simpa using hk) (fun j hj => by simpa using ha (j + 1) (by omega)) h g
theorem mirsC_zero {q : Int} : ∀ {xs : List MMirror}, mirsC q xs = 0 → ∀ j, j < xs.length → OkM q (xs.getD j zM)
  | [], _, j, hj => by simp at hj
  | x :: r, h, 0, _ => by
    rw [mirsC] at h
    split at h
    · split at h
      · simp only [List.getD_cons_zero]; exact ⟨‹_›, ‹_›⟩
      · cases h
    · contradiction
  | x :: r, h, j + 1, hj => by
    rw [mirsC] at h
    split at h
    · split at h
      · simpa using mirsC_zero h j (by simpa using hj)
      · cases h
    · contradiction
def lsC (q : Int) : List (List MMirror) → Int
  | [] => 0
  | l :: r => if mirsC q l = 0 then lsC q r else mirsC q l
theorem lsC_all (q : Int) : ∀ ls : List (List MMirror), (∀ j, j < ls.length → mirsC q (ls.getD j []) = 0) → lsC q ls = 0
  | [], _ => rfl
  | l :: r, h => by
    have h0 := h 0 (by simp)
    simp only [List.getD_cons_zero] at h0
    rw [lsC, if_pos h0]
    exact lsC_all q r fun j hj => by simpa using h (j + 1) (by simpa using hj)
theorem lsC_first (q : Int) : ∀ (ls : List (List MMirror)) (k : Nat), k < ls.length → (∀ j, j < k → mirsC q (ls.getD j []) = 0) → mirsC q (ls.getD k []) ≠ 0 → lsC q ls = mirsC q (ls.getD k [])
  | [], k, hk, _, _ => by simp at hk
  | l :: r, 0, _, _, h => by simp only [List.getD_cons_zero] at h ⊢; rw [lsC, if_neg h]
  | l :: r, k + 1, hk, ha, h => by
    have h0 := ha 0 (by omega)
    simp only [List.getD_cons_zero] at h0
    simp only [List.getD_cons_succ] at h ⊢
    rw [lsC, if_pos h0]
    exact lsC_first q r k (by simpa using hk) (fun j hj => by simpa using ha (j + 1) (by omega)) h
/-- lists of mirrors, their slices in block g -/
def RdLs (w : World) (g : Nat) (ls : List (List MMirror)) : Prop := g < w.heap.size ∧ ∀ t, t < ls.length → ∃ p c, w.cell? ⟨g, t, none⟩ = some (.slice p (ls.getD t []).length c) ∧ RdMirrorS w (.slice p (ls.getD t []).length c) (ls.getD t [])
set_option maxHeartbeats 4000000 in
set_option maxRecDepth 100000 in
theorem impl_mirrorsFault (q : Int) (g n cg : Nat) (ls : List (List MMirror)) (w : World) (h : RdLs w g ls) (hl : ls.length = n) (hn : 1 ≤ n ∧ n ≤ 100) :
    Calls Tryz.prog 67 #[.int .i64 q, .slice (some ⟨g, 0, none⟩) n cg] w fun e w' => e = .returned (.int .i64 (lsC q ls)) ∧ Below w.heap.size w w' := by
  obtain ⟨lg, hc⟩ := h
  have HL : Hid (ls.length = n) := hl
  clear hl
  go_enter Tryz.func67, Tryz.ntmps67
  go_wp2
  go_loopw [12] (fun a wr => ∃ t : Nat, t ≤ n ∧ a = .int .i64 t ∧ Hid (∀ j, j < t → mirsC q (ls.getD j []) = 0) ∧ Below w.heap.size w wr) (fun a _ => n - (intOf a).toNat)
  case atStart => exact ⟨0, Nat.zero_le _, rfl, fun j hj => by omega, Below.refl _ _⟩
  case round =>
    obtain ⟨t, ht, rfl, HT, B⟩ := hrel
    by_cases hlt : t < n
    · obtain ⟨p, c, c0, hR⟩ := hc t (by rw [HL.out]; exact hlt)
      have c0' := (B.cell (p := ⟨g, t, none⟩) lg).trans c0
      have ht1 : (t : Int) < (n : Int) := by omega
      have ht0 : (0 : Int) ≤ (t : Int) := by omega
      have HLF : Hid (∀ cd, mirsC q (ls.getD t []) = cd → cd ≠ 0 → lsC q ls = cd) := fun cd e hne => by rw [← e]; exact lsC_first q ls t (by rw [HL.out]; exact hlt) HT.out (by rw [e]; exact hne)
      have HNT : Hid (mirsC q (ls.getD t []) = 0 → ∀ j, j < t + 1 → mirsC q (ls.getD j []) = 0) := fun h j hj => by
        rcases Nat.lt_succ_iff_lt_or_eq.1 hj with h' | rfl
        · exact HT.out j h'
        · exact h
      clear c0 HT hc
      generalize ls.getD t [] = xs at *
      have HV : Hid (∀ W, Below w.heap.size w W → RdMirrorS W (.slice p xs.length c) xs) := fun W b => hR.below b
      have hml : xs.length ≤ maxLen := by obtain ⟨_, _, _, h, _⟩ := hR; exact h
      unfold maxLen at hml
      clear hR
      generalize hk : xs.length = k at *
      have HK : Hid (xs.length = k) := hk
      clear hk
      go_wp2
      go_loopw [18] (fun a wr => ∃ s : Nat, s ≤ k ∧ a = .int .i64 s ∧ Hid (∀ j, j < s → OkM q (xs.getD j zM)) ∧ Below w.heap.size w wr) (fun a _ => k - (intOf a).toNat)
      case atStart => exact ⟨0, Nat.zero_le _, rfl, fun j hj => by omega, B⟩
      case round =>
        clear B c0'
        obtain ⟨s, hs, rfl, HS, B⟩ := hrel
        by_cases hsl : s < k
        · obtain ⟨a, cap, ev, _, hr⟩ := HV.out wr B
          rw [HK.out] at ev
          simp only [Value.slice.injEq, true_and] at ev
          obtain ⟨rfl, rfl⟩ := ev
          obtain ⟨b, o, rfl, lb, hcc⟩ := hr (by intro h; have := HK.out; rw [h] at this; simp at this; omega)
          obtain ⟨p2, c2, d0, d1, hM⟩ := hcc s (by rw [HK.out]; exact hsl)
          have hs1 : (s : Int) < (k : Int) := by omega
          have hs0 : (0 : Int) ≤ (s : Int) := by omega
          have HFA : Hid (mirC (xs.getD s zM).xQ (xs.getD s zM).xViews ≠ 0 → mirsC q xs = mirC (xs.getD s zM).xQ (xs.getD s zM).xViews) := fun h => mirsC_fault q xs s (by rw [HK.out]; exact hsl) HS.out h
          have HOT : Hid (mirC (xs.getD s zM).xQ (xs.getD s zM).xViews = 0 → (xs.getD s zM).xQ ≠ q → mirsC q xs = 1) := fun h h' => mirsC_other q xs s (by rw [HK.out]; exact hsl) HS.out h h'
          have HNS : Hid (OkM q (xs.getD s zM) → ∀ j, j < s + 1 → OkM q (xs.getD j zM)) := fun h j hj => by
            rcases Nat.lt_succ_iff_lt_or_eq.1 hj with h' | rfl
            · exact HS.out j h'
            · exact h
          have HOK : Hid (∀ x, OkM q x ↔ (mirC x.xQ x.xViews = 0 ∧ x.xQ = q)) := fun x => Iff.rfl
          clear hr hcc HS
          generalize xs.getD s zM = x at *
          have X0 := Blk.new wr 36 #[.int .i64 x.xQ, .slice p2 x.xViews.length c2]
          have hA : Below wr.heap.size wr (wr.alloc (.cells #[.int .i64 x.xQ, .slice p2 x.xViews.length c2] 36)) := (Below.refl _ _).alloc (Nat.le_refl _) _
          have KF := impl_MirrorFault (.agg #[.int .i64 x.xQ, .slice p2 x.xViews.length c2]) x _ ⟨p2, c2, rfl, hM.below hA⟩
          have B2 := B.trans (hA.mono B.size)
          clear hM hA B
          go_wp2_with fail
          refine KF.mono ?_
          rintro e w2 ⟨rfl, hb2⟩
          have X2 := X0.keep hb2
          have B3 := B2.trans (hb2.mono B2.size)
          have xa := X2.at.1
          clear KF X0 B2 hb2
          by_cases hf : mirC x.xQ x.xViews = 0
          · have ef : (mirC x.xQ x.xViews != 0) = false := by simpa using hf
            by_cases hqq : x.xQ = q
            · have eq : (x.xQ != q) = false := by simpa using hqq
              have hnx := HNS.out ((HOK.out x).2 ⟨hf, hqq⟩)
              have HNX : Hid _ := hnx
              clear hnx hf hqq HFA HOT HNS HOK
              generalize mirC x.xQ x.xViews = mc at *
              generalize x.xQ = xq at *
              go_wp2
              go_roundw
              case rel => exact ⟨s + 1, by omega, by go_num, HNX, B3⟩
              case measure => simp [intOf]; omega
            · have eq : (x.xQ != q) = true := by simpa using hqq
              have HRES : Hid (lsC q ls = 1) := HLF.out 1 (HOT.out hf hqq) (by decide)
              clear hf hqq HFA HOT HNS HOK
              generalize mirC x.xQ x.xViews = mc at *
              generalize x.xQ = xq at *
              go_wp2
              go_ret
              exact ⟨by rw [HRES.out]; rfl, B3⟩
          · have ef : (mirC x.xQ x.xViews != 0) = true := by simpa using hf
            have HRES : Hid (lsC q ls = mirC x.xQ x.xViews) := HLF.out _ (HFA.out hf) hf
            clear hf HFA HOT HNS HOK
            generalize mirC x.xQ x.xViews = mc at *
            go_wp2
            go_ret
            exact ⟨by rw [HRES.out]; rfl, B3⟩
        · obtain rfl : s = k := by omega
          have HNX := (show Hid _ from HNT.out (mirsC_all q xs (by rw [HK.out]; exact HS.out)))
          go_wp2
          go_roundw
          case rel => exact ⟨t + 1, by omega, by go_num, HNX, B⟩
          case measure => simp [intOf]; omega
    · obtain rfl : t = n := by omega
      have HRES : Hid (lsC q ls = 0) := lsC_all q ls (by rw [HL.out]; exact HT.out)
      go_wp2
      go_ret
      exact ⟨by rw [HRES.out]; rfl, B⟩
end Go.Proofs.YtepobckhfodngaoGreat
