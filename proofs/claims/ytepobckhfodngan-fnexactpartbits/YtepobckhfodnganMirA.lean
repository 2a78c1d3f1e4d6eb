/-
  Contracts of chapter 3's model: who knows a part; mirrors that are alike; what they are worth.
-/
import Derived.Test.YtepobckhfodnganMirS
import Derived.Test.YtepobckhfodnganTapeW
import Derived.Test.YtepobckhfodnganBut
namespace Go.Proofs.Ytepobckhfodngan
open Go.ChangeShapes Go.WideShapes Go.ChangeAt Go.RowKit
set_option linter.unusedVariables false

/-- part k of party i's view -/
def pt (xss : List (List Int)) (i k : Nat) : Int := (xss.getD i []).getD k 0
def knower (part : Nat) (but : Int) : Nat := if part ≠ 0 ∧ but ≠ 0 then 0 else if part ≠ 1 ∧ but ≠ 1 then 1 else 2
def alikeB (xss : List (List Int)) (but : Int) : Bool := (List.range 4).all fun (k : Nat) => (List.range 4).all fun (i : Nat) => decide (i = k ∨ (i : Int) = but ∨ pt xss i k = pt xss (knower k but) k)
theorem alikeB_iff (xss : List (List Int)) (but : Int) : alikeB xss but = true ↔ ∀ k : Nat, k < 4 → ∀ i : Nat, i < 4 → (i = k ∨ (i : Int) = but ∨ pt xss i k = pt xss (knower k but) k) := by
  unfold alikeB
  rw [List.all_eq_true]
  constructor
  · intro h k hk i hi
    have := List.all_eq_true.1 (h k (List.mem_range.2 hk)) i (List.mem_range.2 hi)
    simpa using this
  · intro h k hk
    rw [List.all_eq_true]
    intro i hi
    have := h k (List.mem_range.1 hk) i (List.mem_range.1 hi)
    simpa using this
theorem knower_le (part : Nat) (but : Int) : knower part but ≤ 2 := by unfold knower; split; omega; split <;> omega
theorem knower_ne (part : Nat) (but : Int) : knower part but ≠ part ∧ (knower part but : Int) ≠ but := by
  unfold knower
  split
  · omega
  · split
    · omega
    · omega
def sumK (xss : List (List Int)) (but : Int) : Nat → Int
  | 0 => 0
  | k + 1 => sumK xss but k + pt xss (knower k but) k
def valueR (q : Int) (xss : List (List Int)) (but : Int) : MIntResult := if mirC q xss = 0 then (if isBut but = true then (if alikeB xss but = true then ⟨0, sumK xss but 4 % q⟩ else ⟨6, 0⟩) else ⟨3, 0⟩) else ⟨mirC q xss, 0⟩
def isAlikeR (q : Int) (xss : List (List Int)) (but : Int) : Bool := decide (mirC q xss = 0) && isBut but && alikeB xss but
/-- one part of a mirror, as it lies in memory -/
theorem ReadsM.part {w : World} {p : Option Addr} {c : Nat} {xss : List (List Int)} (h : ReadsM w (.slice p xss.length c) xss) (h4 : xss.length = 4) (hr : ∀ i, i < 4 → (xss.getD i []).length = 4) (i k : Nat) (hi : i < 4) (hk : k < 4) :
    ∃ gb off g2 o2 d, p = some ⟨gb, off, none⟩ ∧ w.cell? ⟨gb, off + i, none⟩ = some (.slice (some ⟨g2, o2, none⟩) 4 d) ∧ w.cell? ⟨g2, o2 + k, none⟩ = some (.int .i64 (pt xss i k)) := by
  obtain ⟨gb, off, pq, d, rfl, _, c1, r1⟩ := h.lane i (by omega)
  obtain ⟨g2, o2, rfl, _, c2⟩ := r1.one k (by rw [hr i hi]; exact hk)
  rw [hr i hi] at c1
  exact ⟨gb, off, g2, o2, d, rfl, c1, c2⟩
set_option maxHeartbeats 1000000 in
theorem spec_l3Knower (part : Nat) (but : Int) (w : World) (hp : part < 4) : Calls Try.prog 78 #[.int .i64 part, .int .i64 but] w fun e w' => e = .returned (.int .i64 (knower part but)) ∧ w = w' := by
  have HK : Hid (knower part but ≤ 2 ∧ (knower part but ≠ part ∧ (knower part but : Int) ≠ but) ∧ ∀ i : Nat, i < knower part but → (i = part ∨ (i : Int) = but)) := by
    refine ⟨knower_le part but, knower_ne part but, fun i hi => ?_⟩
    unfold knower at hi
    split at hi
    · omega
    · split at hi
      · omega
      · omega
  generalize knower part but = n at *
  obtain ⟨k1, k2, k3⟩ := HK.out
  have HK3 : Hid (∀ i : Nat, i < n → (i = part ∨ (i : Int) = but)) := k3
  clear k3 HK
  go_enter Try.func78, Try.ntmps78
  go_wp2
  go_loop [5] (fun i => ∃ m : Nat, m ≤ n ∧ i = .int .i64 m) (fun i => n - (intOf i).toNat)
  case atStart => exact ⟨0, Nat.zero_le _, rfl⟩
  case round =>
    obtain ⟨m, hm, rfl⟩ := hrel
    have hi : (m : Int) < 4 := by omega
    by_cases hlt : m < n
    · by_cases e : m = part
      · have hne : ((m : Int) != (part : Int)) = false := by simp; omega
        clear e
        go_wp2
        go_round
        case rel => exact ⟨m + 1, by omega, by go_num⟩
        case measure => simp [intOf]; omega
      · have hne : ((m : Int) != (part : Int)) = true := by simp; omega
        have hne2 : ((m : Int) != but) = false := by have := HK3.out m hlt; simp; omega
        clear e
        go_wp2
        go_round
        case rel => exact ⟨m + 1, by omega, by go_num⟩
        case measure => simp [intOf]; omega
    · obtain rfl : m = n := by omega
      have hne : ((m : Int) != (part : Int)) = true := by simp; omega
      have hne2 : ((m : Int) != but) = true := by simp; omega
      clear k2
      go_wp2
      go_ret
      exact ⟨rfl, rfl⟩
set_option maxHeartbeats 4000000 in
set_option maxRecDepth 100000 in
theorem spec_l3Alike (b : Nat) (q : Int) (v : Value) (xss : List (List Int)) (but : Int) (w : World) (hb : Blk w b 30 #[.int .i64 q, v]) (hv : ReadsM w v xss) (h4 : xss.length = 4) (hr : ∀ i, i < 4 → (xss.getD i []).length = 4) :
    Calls Try.prog 66 #[.pointer (some ⟨b, 0, none⟩), .int .i64 but] w fun e w' => e = .returned (.bool (alikeB xss but)) ∧ Below w.heap.size w w' := by
  obtain ⟨p, c, rfl⟩ := hv.shp
  have HP : Hid (∀ W, Below w.heap.size w W → ∀ i k, i < 4 → k < 4 → ∃ gb off g2 o2 d, p = some ⟨gb, off, none⟩ ∧ W.cell? ⟨gb, off + i, none⟩ = some (.slice (some ⟨g2, o2, none⟩) 4 d) ∧ W.cell? ⟨g2, o2 + k, none⟩ = some (.int .i64 (pt xss i k))) := fun W B i k hi hk => (hv.below B).part h4 hr i k hi hk
  rw [h4] at hb
  clear hv h4 hr
  go_enter Try.func66, Try.ntmps66
  go_wp2_with fail
  go_loopw [5, 6, 7] (fun i _ _ wr => ∃ k : Nat, k ≤ 4 ∧ i = .int .i64 k ∧ (∀ j : Nat, j < k → ∀ i : Nat, i < 4 → (i = j ∨ (i : Int) = but ∨ pt xss i j = pt xss (knower j but) j)) ∧ Below w.heap.size w wr) (fun i _ _ _ => 4 - (intOf i).toNat)
  case atStart => exact ⟨0, Nat.zero_le _, rfl, fun j hj => by omega, Below.refl _ _⟩
  case round =>
    obtain ⟨k, hk, rfl, hg, B⟩ := hrel
    have HG : Hid (∀ j : Nat, j < k → ∀ i : Nat, i < 4 → (i = j ∨ (i : Int) = but ∨ pt xss i j = pt xss (knower j but) j)) := hg
    clear hg
    have X := hb.below B hb.lt
    have ba := X.at.1
    by_cases hlt : k < 4
    · have hkn := knower_le k but
      obtain ⟨gb, off, g2, o2, d, rfl, c1, c2⟩ := HP.out wr B (knower k but) k (by omega) hlt
      have HC := fun h : alikeB xss but = true => (alikeB_iff xss but).1 h k hlt
      have K := fun w => spec_l3Knower k but w hlt
      have hi : (k : Int) < 4 := by omega
      have hi0 : (0 : Int) ≤ (k : Int) := by omega
      have HW : Hid (∃ z, z = pt xss (knower k but) k) := ⟨_, rfl⟩
      generalize hz : pt xss (knower k but) k = z at *
      have HZ : Hid (pt xss (knower k but) k = z) := hz
      clear hz HW
      have HKE : Hid (∃ n, n = knower k but ∧ pt xss n k = z) := ⟨_, rfl, HZ.out⟩
      generalize hkk : knower k but = kn at *
      have HKK : Hid (knower k but = kn) := hkk
      clear hkk HKE
      have hkn' : (kn : Int) < 4 := by omega
      have hS : (∀ o, wr.cell? ⟨b, o, none⟩ = (#[.int .i64 q, .slice (some ⟨gb, off, none⟩) 4 c] : Array Value)[o]?) ∧ wr.cell? ⟨gb, off + kn, none⟩ = some (.slice (some ⟨g2, o2, none⟩) 4 d) ∧ wr.cell? ⟨g2, o2 + k, none⟩ = some (.int .i64 z) := ⟨ba, c1, c2⟩
      go_wp2_with fail
      go_region_held3 (fun V => (∀ o, V.cell? ⟨b, o, none⟩ = (#[.int .i64 q, .slice (some ⟨gb, off, none⟩) 4 c] : Array Value)[o]?) ∧ V.cell? ⟨gb, off + kn, none⟩ = some (.slice (some ⟨g2, o2, none⟩) 4 d) ∧ V.cell? ⟨g2, o2 + k, none⟩ = some (.int .i64 z)) (exact hS) (first | (go_at_call 78; refine (K _).mono ?_; rintro e w9 ⟨rfl, rfl⟩))
      clear hS c1 c2 ba X
      have B1 := B.drew
      obtain ⟨wo, ewo⟩ : ∃ x : World, x = wr.drew := ⟨_, rfl⟩
      rw [← ewo] at B1 ⊢
      clear ewo B
      have X := hb.below B1 hb.lt
      have ba := X.at.1
      go_wp2_with fail
      go_loop [7] (fun i => ∃ m : Nat, m ≤ 4 ∧ i = .int .i64 m ∧ (∀ j : Nat, j < m → (j = k ∨ (j : Int) = but ∨ pt xss j k = z))) (fun i => 4 - (intOf i).toNat)
      case atStart => exact ⟨0, Nat.zero_le _, rfl, fun j hj => by omega⟩
      case round =>
        obtain ⟨m, hm, rfl, ha⟩ := hrel
        have HA : Hid (∀ j : Nat, j < m → (j = k ∨ (j : Int) = but ∨ pt xss j k = z)) := ha
        clear ha
        by_cases hlt2 : m < 4
        · have hi2 : (m : Int) < 4 := by omega
          have hi20 : (0 : Int) ≤ (m : Int) := by omega
          have step : (m = k ∨ (m : Int) = but ∨ pt xss m k = z) → Hid (∀ j : Nat, j < m + 1 → (j = k ∨ (j : Int) = but ∨ pt xss j k = z)) := fun h j hj => by
            rcases Nat.lt_or_ge j m with h' | h'
            · exact HA.out j h'
            · rw [show j = m by omega]; exact h
          by_cases e1 : m = k
          · have HA' := step (.inl e1)
            have hne : ((m : Int) != (k : Int)) = false := by simp; omega
            clear e1 step
            go_wp2
            go_round
            case rel => exact ⟨m + 1, by omega, by go_num, HA'.out⟩
            case measure => simp [intOf]; omega
          · have hne : ((m : Int) != (k : Int)) = true := by simp; omega
            by_cases e2 : (m : Int) = but
            · have HA' := step (.inr (.inl e2))
              have hne2 : ((m : Int) != but) = false := by simp [e2]
              clear e1 e2 step
              go_wp2
              go_round
              case rel => exact ⟨m + 1, by omega, by go_num, HA'.out⟩
              case measure => simp [intOf]; omega
            · have hne2 : ((m : Int) != but) = true := by simp [e2]
              obtain ⟨gb', off', g3, o3, d3, ep, c3, c4⟩ := HP.out wo B1 m k hlt2 hlt
              obtain ⟨rfl, rfl⟩ : gb = gb' ∧ off = off' := by simpa using ep
              clear ep
              by_cases e3 : pt xss m k = z
              · have HA' := step (.inr (.inr e3))
                rw [e3] at c4
                clear e1 e2 e3 step
                go_wp2
                go_round
                case rel => exact ⟨m + 1, by omega, by go_num, HA'.out⟩
                case measure => simp [intOf]; omega
              · have HN : Hid (alikeB xss but = false) := by
                  show _ = _
                  rw [Bool.eq_false_iff]
                  intro h
                  rcases HC h m hlt2 with h | h | h
                  · exact e1 h
                  · exact e2 h
                  · exact e3 h
                have hne3 : (pt xss m k != z) = true := by simpa using e3
                clear e1 e2 e3 step HC
                generalize pt xss m k = y at *
                go_wp2
                go_ret
                exact ⟨by rw [HN.out]; rfl, B1⟩
        · obtain rfl : m = 4 := by omega
          have HG' : Hid (∀ j : Nat, j < k + 1 → ∀ i : Nat, i < 4 → (i = j ∨ (i : Int) = but ∨ pt xss i j = pt xss (knower j but) j)) := fun j hj i hi4 => by
            rcases Nat.lt_or_ge j k with h | h
            · exact HG.out j h i hi4
            · obtain rfl : j = k := by omega
              rw [HKK.out, HZ.out]; exact HA.out i hi4
          go_wp2
          go_roundw
          case rel => exact ⟨k + 1, by omega, by go_num, HG'.out, B1⟩
          case measure => simp [intOf]; omega
    · obtain rfl : k = 4 := by omega
      have HN : Hid (alikeB xss but = true) := (alikeB_iff xss but).2 HG.out
      go_wp2
      go_ret
      exact ⟨by rw [HN.out]; rfl, B⟩
end Go.Proofs.Ytepobckhfodngan
