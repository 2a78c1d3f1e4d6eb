/-
  Contracts of chapter 3 of the program: views that are arrays.
-/
import Derived.Test.YtepobckhfodngaoGreatMirO
import Derived.Test.YtepobckhfodngaoGreatElem
import Derived.Test.YtepobckhfodngaoGreatEl
namespace Go.Proofs.YtepobckhfodngaoGreat
open Go.ChangeShapes Go.WideShapes Go.ChangeAt Go.RowKit
set_option linter.unusedVariables false

/-- an array of whole numbers, as a value -/
def ag (xs : List Int) : Value := .agg (xs.map (Value.int .i64)).toArray
theorem four {α : Type} : ∀ (xs : List α), xs.length = 4 → ∃ a b c d, xs = [a, b, c, d]
  | [a, b, c, d], _ => ⟨a, b, c, d, rfl⟩
  | [], h => by simp at h
  | [_], h => by simp at h
  | [_, _], h => by simp at h
  | [_, _, _], h => by simp at h
  | _ :: _ :: _ :: _ :: _ :: _, h => by simp at h
theorem ag4 (a b c d : Int) : ag [a, b, c, d] = .agg #[.int .i64 a, .int .i64 b, .int .i64 c, .int .i64 d] := rfl
set_option maxHeartbeats 1000000 in
set_option maxRecDepth 100000 in
theorem impl_viewOf (v : Value) (xs : List Int) (w : World) (hv : Reads w .i64 v xs) (h4 : xs.length = 4) :
    Calls Tryz.prog 98 #[v] w fun e w' => e = .returned (ag xs) ∧ Below w.heap.size w w' := by
  obtain ⟨i0, hi, hz0, hz1, hz2⟩ := info_parts Tryz.infoI
  obtain ⟨p, ca, rfl⟩ := hv.shp
  have hsz : (Tryz.prog.info? 2).map (·.size) = some 1 := by rw [hi]; simp [hz1]
  obtain ⟨w1, ew1⟩ : ∃ x, x = (w.alloc (.cells #[.int .i64 0, .int .i64 0, .int .i64 0, .int .i64 0] 83)).alloc (.cells #[.int .i64 0, .int .i64 0, .int .i64 0, .int .i64 0] 83) := ⟨_, rfl⟩
  have B1 : Below w.heap.size w w1 := by rw [ew1]; exact (by repeat (first | exact Below.refl _ _ | refine Below.drew ?_ | refine below_drewN ?_ _ | refine Below.setCell ?_ (by first | omega | (simp; done) | (simp; omega)) _ | refine Below.alloc ?_ (by first | omega | (simp; done) | (simp; omega)) _))
  have X1 : Blk w1 w.heap.size 83 #[.int .i64 0, .int .i64 0, .int .i64 0, .int .i64 0] := by rw [ew1]; exact (Blk.new w _ _).alloc _
  have Y1 : Blk w1 (w.heap.size + 1) 83 #[.int .i64 0, .int .i64 0, .int .i64 0, .int .i64 0] := by rw [ew1]; simpa using Blk.new (w.alloc (.cells #[.int .i64 0, .int .i64 0, .int .i64 0, .int .i64 0] 83)) 83 #[.int .i64 0, .int .i64 0, .int .i64 0, .int .i64 0]
  obtain ⟨ad, rfl, hcell⟩ := (hv.below B1).cells (by intro h; rw [h] at h4; simp at h4)
  have hr := run_copy_row (P := Tryz.prog) w1 25 25 3 2 (w.heap.size + 1) 0 4 4 ad 4 ca #[.int .i64 0, .int .i64 0, .int .i64 0, .int .i64 0] 83 (xs.map (Value.int .i64)) Tryz.underlying25 hsz Y1 (by simp [h4]) hcell (by simp [h4]) (by intro u hu; obtain ⟨y, _, rfl⟩ := List.mem_map.1 hu; rfl)
  have hgo : (goInt (xs.map (Value.int .i64)).length) = goInt 4 := by simp [h4]
  rw [hgo] at hr
  obtain ⟨a, b, c, d, rfl⟩ := four xs h4
  have hs := setRow_heap w1 (w.heap.size + 1) #[.int .i64 0, .int .i64 0, .int .i64 0, .int .i64 0] #[.int .i64 a, .int .i64 b, .int .i64 c, .int .i64 d] 83 (0, 0) Y1
  obtain ⟨w2, hrun, Y2, X2, B2⟩ : ∃ w2, (Builtin.copy_ #[25, 25] 3 #[.slice (some ⟨w.heap.size + 1, 0, none⟩) 4 4, .slice (some ad) 4 ca]).run Tryz.prog w1 = .ok (goInt 4) w2 ∧ Blk w2 (w.heap.size + 1) 83 #[.int .i64 a, .int .i64 b, .int .i64 c, .int .i64 d] ∧ Blk w2 w.heap.size 83 #[.int .i64 0, .int .i64 0, .int .i64 0, .int .i64 0] ∧ Below w.heap.size w w2 := by
    refine ⟨_, hr, hs, ?_, below_setRow B1 (by omega) _⟩
    have hB := below_setRow (g := w.heap.size + 1) (Below.refl (w.heap.size + 1) w1) (Nat.le_refl _) (#[.int .i64 a, .int .i64 b, .int .i64 c, .int .i64 d])
    exact X1.below hB (by omega)
  clear hr hs hgo hcell hv X1 Y1 B1
  have xa := X2.at.1
  have xb := X2.at.2
  have ya := Y2.at.1
  rw [ag4]
  subst ew1
  simp only [List.length_cons, List.length_nil]
  go_enter Tryz.func98, Tryz.ntmps98
  go_wp2
  exact bodyPost_ret (v := .agg #[.int .i64 a, .int .i64 b, .int .i64 c, .int .i64 d]) (by simp [results, Tryz.results98, go_sem, xa]) rfl ⟨rfl, by repeat (first | exact B2 | refine Below.setCell ?_ (by simp) _)⟩
theorem impl_list (xs : List Int) (w : World) (h4 : xs.length = 4) :
    Calls Tryz.prog 102 #[ag xs] w fun e w' => ∃ g, e = .returned (.slice (some ⟨g, 0, none⟩) 4 4) ∧ Ints w' (.slice (some ⟨g, 0, none⟩) 4 4) xs [g] ∧ w.heap.size ≤ g ∧ Below w.heap.size w w' := by
  obtain ⟨a, b, c, d, rfl⟩ := four xs h4
  rw [ag4]
  clear h4
  go_enter Tryz.func102, Tryz.ntmps102
  go_wp2
  go_ret
  exact ⟨_, rfl, ⟨83, by simp, .inr ⟨w.heap.size, 4, _, rfl, rfl, heap_alloc_new _ _, by simp, by unfold maxLen; omega, by simp, by simp⟩⟩, Nat.le_refl _, (by repeat (first | exact Below.refl _ _ | refine Below.drew ?_ | refine below_drewN ?_ _ | refine Below.setCell ?_ (by first | omega | (simp; done) | (simp; omega)) _ | refine Below.alloc ?_ (by first | omega | (simp; done) | (simp; omega)) _))⟩
theorem impl_without (xs : List Int) (i : Nat) (w : World) (h4 : xs.length = 4) (hi : i < 4) :
    Calls Tryz.prog 156 #[ag xs, .int .i64 i] w fun e w' => e = .returned (ag (xs.set i 0)) ∧ Below w.heap.size w w' := by
  obtain ⟨a, b, c, d, rfl⟩ := four xs h4
  rw [ag4]
  clear h4
  obtain rfl | rfl | rfl | rfl : i = 0 ∨ i = 1 ∨ i = 2 ∨ i = 3 := by omega
  · show Calls _ _ _ _ fun e w' => e = .returned (.agg #[.int .i64 0, .int .i64 b, .int .i64 c, .int .i64 d]) ∧ _
    go_enter Tryz.func156, Tryz.ntmps156
    go_wp2
    exact bodyPost_ret (v := .agg #[.int .i64 0, .int .i64 b, .int .i64 c, .int .i64 d]) (by simp [results, Tryz.results156, go_sem]) rfl ⟨rfl, (by repeat (first | exact Below.refl _ _ | refine Below.drew ?_ | refine below_drewN ?_ _ | refine Below.setCell ?_ (by first | omega | (simp; done) | (simp; omega)) _ | refine Below.alloc ?_ (by first | omega | (simp; done) | (simp; omega)) _))⟩
  · show Calls _ _ _ _ fun e w' => e = .returned (.agg #[.int .i64 a, .int .i64 0, .int .i64 c, .int .i64 d]) ∧ _
    go_enter Tryz.func156, Tryz.ntmps156
    go_wp2
    exact bodyPost_ret (v := .agg #[.int .i64 a, .int .i64 0, .int .i64 c, .int .i64 d]) (by simp [results, Tryz.results156, go_sem]) rfl ⟨rfl, (by repeat (first | exact Below.refl _ _ | refine Below.drew ?_ | refine below_drewN ?_ _ | refine Below.setCell ?_ (by first | omega | (simp; done) | (simp; omega)) _ | refine Below.alloc ?_ (by first | omega | (simp; done) | (simp; omega)) _))⟩
  · show Calls _ _ _ _ fun e w' => e = .returned (.agg #[.int .i64 a, .int .i64 b, .int .i64 0, .int .i64 d]) ∧ _
    go_enter Tryz.func156, Tryz.ntmps156
    go_wp2
    exact bodyPost_ret (v := .agg #[.int .i64 a, .int .i64 b, .int .i64 0, .int .i64 d]) (by simp [results, Tryz.results156, go_sem]) rfl ⟨rfl, (by repeat (first | exact Below.refl _ _ | refine Below.drew ?_ | refine below_drewN ?_ _ | refine Below.setCell ?_ (by first | omega | (simp; done) | (simp; omega)) _ | refine Below.alloc ?_ (by first | omega | (simp; done) | (simp; omega)) _))⟩
  · show Calls _ _ _ _ fun e w' => e = .returned (.agg #[.int .i64 a, .int .i64 b, .int .i64 c, .int .i64 0]) ∧ _
    go_enter Tryz.func156, Tryz.ntmps156
    go_wp2
    exact bodyPost_ret (v := .agg #[.int .i64 a, .int .i64 b, .int .i64 c, .int .i64 0]) (by simp [results, Tryz.results156, go_sem]) rfl ⟨rfl, (by repeat (first | exact Below.refl _ _ | refine Below.drew ?_ | refine below_drewN ?_ _ | refine Below.setCell ?_ (by first | omega | (simp; done) | (simp; omega)) _ | refine Below.alloc ?_ (by first | omega | (simp; done) | (simp; omega)) _))⟩
theorem viewC_el {q : Int} {xs : List Int} (h : xs.length = 4) : viewC q xs = elC q xs := by
  by_cases k : okE q xs = true
  · rw [show elC q xs = 0 from if_pos k]
    exact viewC_ok h ((okV_iff q xs).2 fun j hj => (okE_iff q xs).1 k j hj)
  · rw [show elC q xs = 3 from if_neg k]
    exact viewC_bad h (fun h' => k ((okE_iff q xs).2 fun j hj => (okV_iff q xs).1 h' j hj))
set_option maxHeartbeats 1000000 in
theorem impl_partsFault (q : Int) (v : Value) (xs : List Int) (w : World) (hv : Reads w .i64 v xs) :
    Calls Tryz.prog 118 #[.int .i64 q, v] w fun e w' => e = .returned (.int .i64 (viewC q xs)) ∧ w = w' := by
  have hm := hv.le
  unfold maxLen at hm
  have K := impl_elementsFault q v xs w hv
  obtain ⟨p, c, rfl⟩ := hv.shp
  clear hv
  by_cases h4 : xs.length = 4
  · have HN : Hid (viewC q xs = elC q xs) := viewC_el h4
    rw [h4] at K ⊢
    clear h4 hm
    generalize elC q xs = r at *
    go_enter Tryz.func118, Tryz.ntmps118
    go_wp2_with fail
    refine K.mono ?_
    rintro e w' ⟨rfl, rfl⟩
    go_wp2
    go_ret
    exact ⟨by rw [HN.out]; rfl, rfl⟩
  · have HN : Hid (viewC q xs = 1) := viewC_form h4
    have hne : ((xs.length : Int) == 4) = false := by simp; omega
    clear K
    go_enter Tryz.func118, Tryz.ntmps118
    go_wp2
    go_ret
    exact ⟨by rw [HN.out]; rfl, rfl⟩
set_option maxHeartbeats 4000000 in
set_option maxRecDepth 100000 in
theorem impl_MirrorFault (v : Value) (x : MMirror) (w : World) (hv : RdMirror w v x) :
    Calls Tryz.prog 92 #[v] w fun e w' => e = .returned (.int .i64 (mirC x.xQ x.xViews)) ∧ Below w.heap.size w w' := by
  obtain ⟨q, xss⟩ := x
  obtain ⟨p, c, rfl, hv⟩ := hv
  dsimp only at hv ⊢
  have hm : xss.length ≤ maxLen := by obtain ⟨_, _, _, h, _⟩ := hv; exact h
  unfold maxLen at hm
  have B0 : Below w.heap.size w (w.alloc (.cells #[.int .i64 q, .slice p xss.length c] 36)) := (by repeat (first | exact Below.refl _ _ | refine Below.drew ?_ | refine below_drewN ?_ _ | refine Below.setCell ?_ (by first | omega | (simp; done) | (simp; omega)) _ | refine Below.alloc ?_ (by first | omega | (simp; done) | (simp; omega)) _))
  by_cases hq : isQ q
  · by_cases h4 : xss.length = 4
    · have HL : Hid (xss.length = 4) := h4
      have HV : Hid (ReadsM (w.alloc (.cells #[.int .i64 q, .slice p 4 c] 36)) (.slice p xss.length c) xss) := by rw [← h4]; exact hv.below B0
      rw [h4] at B0 ⊢
      clear h4 hm hv
      go_enter Tryz.func92, Tryz.ntmps92
      go_wp2_with fail
      refine (impl_isRing_yes _ _ hq).mono ?_
      rintro e w' ⟨rfl, rfl⟩
      go_wp2_with fail
      go_loop [4, 5, 19] (fun _ _ i => ∃ k : Nat, k ≤ 4 ∧ i = .int .i64 k ∧ (∀ j, j < k → viewC q (xss.getD j []) = 0)) (fun _ _ i => 4 - (intOf i).toNat)
      case atStart => exact ⟨0, Nat.zero_le _, rfl, fun j hj => by omega⟩
      case round =>
        obtain ⟨k, hk, rfl, hg⟩ := hrel
        have HG : Hid (∀ j, j < k → viewC q (xss.getD j []) = 0) := hg
        clear hg
        by_cases hlt : k < 4
        · obtain ⟨gb, off, pq, dq, rfl, hltb, c1, r1⟩ := HV.out.lane k (by rw [HL.out]; exact hlt)
          have HF := fun h => viewsC_first q xss k (by rw [HL.out]; exact hlt) HG.out h
          have hi : (k : Int) < 4 := by omega
          generalize hys : xss.getD k [] = ys at *
          have HY : Hid (xss.getD k [] = ys) := hys
          clear hys
          by_cases h0 : viewC q ys = 0
          · have HG' : Hid (∀ m, m < k + 1 → viewC q (xss.getD m []) = 0) := fun m hm => by
              rcases Nat.lt_or_ge m k with h | h
              · exact HG.out m h
              · rw [show m = k by omega, HY.out]; exact h0
            have K := fun w h => impl_partsFault q (.slice pq ys.length dq) ys w h
            rw [h0] at K
            clear HF h0
            go_wp2_with fail
            refine (K _ r1).mono ?_
            rintro e w' ⟨rfl, rfl⟩
            go_wp2
            go_round
            case rel => exact ⟨k + 1, by omega, by go_num, HG'.out⟩
            case measure => simp [intOf]; omega
          · have HN : Hid (mirC q xss = viewC q ys) := by
              have := HF h0
              exact (mirC_views hq HL.out (by rw [this]; exact h0)).trans this
            have K := fun w h => impl_partsFault q (.slice pq ys.length dq) ys w h
            have hne : (viewC q ys == 0) = false := by simpa using h0
            clear HF
            generalize viewC q ys = r at *
            go_wp2_with fail
            refine (K _ r1).mono ?_
            rintro e w' ⟨rfl, rfl⟩
            go_wp2
            go_ret
            exact ⟨by rw [HN.out]; rfl, B0⟩
        · obtain rfl : k = 4 := by omega
          have HZ : Hid (viewsC q xss = 0) := viewsC_all q xss fun j hj => HG.out j (by rw [HL.out] at hj; exact hj)
          have HR4 : Hid (∀ j, j < 4 → (xss.getD j []).length = 4) := fun j hj => (viewC_zero (HG.out j hj)).1
          clear HG
          go_wp2_with fail
          go_loop [6, 7, 34] (fun _ _ i => ∃ m : Nat, m ≤ 4 ∧ i = .int .i64 m ∧ (∀ j, j < m → (xss.getD j []).getD j 0 = 0)) (fun _ _ i => 4 - (intOf i).toNat)
          case atStart => exact ⟨0, Nat.zero_le _, rfl, fun j hj => by omega⟩
          case round =>
            obtain ⟨m, hm, rfl, ha⟩ := hrel
            have HA : Hid (∀ j, j < m → (xss.getD j []).getD j 0 = 0) := ha
            clear ha
            by_cases hlt2 : m < 4
            · obtain ⟨gb, off, pq, dq, rfl, hltb, c1, r1⟩ := HV.out.lane m (by rw [HL.out]; exact hlt2)
              rw [HR4.out m hlt2] at c1 r1
              obtain ⟨g2, o2, rfl, hl2, d1⟩ := r1.one m (by rw [HR4.out m hlt2]; exact hlt2)
              have hi2 : (m : Int) < 4 := by omega
              have hi20 : (0 : Int) ≤ (m : Int) := by omega
              clear r1
              by_cases h0 : (xss.getD m []).getD m 0 = 0
              · have HA' : Hid (∀ j, j < m + 1 → (xss.getD j []).getD j 0 = 0) := fun j hj => by
                  rcases Nat.lt_or_ge j m with h | h
                  · exact HA.out j h
                  · rw [show j = m by omega]; exact h0
                rw [h0] at d1
                clear h0
                go_wp2
                go_round
                case rel => exact ⟨m + 1, by omega, by go_num, HA'.out⟩
                case measure => simp [intOf]; omega
              · have HN : Hid (mirC q xss = 1) := mirC_own hq HL.out HZ.out (fun h => h0 ((ownB_iff xss).1 h m hlt2))
                have hne : ((xss.getD m []).getD m 0 == 0) = false := by simpa using h0
                clear h0
                generalize (xss.getD m []).getD m 0 = y at *
                go_wp2
                go_ret
                exact ⟨by rw [HN.out]; rfl, B0⟩
            · obtain rfl : m = 4 := by omega
              have HN : Hid (mirC q xss = 0) := mirC_ok hq HL.out HZ.out ((ownB_iff xss).2 HA.out)
              go_wp2
              go_ret
              exact ⟨by rw [HN.out]; rfl, B0⟩
    · have HN : Hid (mirC q xss = 1) := mirC_form hq h4
      have hne : ((xss.length : Int) == 4) = false := by simp; omega
      go_enter Tryz.func92, Tryz.ntmps92
      go_wp2_with fail
      refine (impl_isRing_yes _ _ hq).mono ?_
      rintro e w' ⟨rfl, rfl⟩
      go_wp2
      go_ret
      exact ⟨by rw [HN.out]; rfl, B0⟩
  · have HN : Hid (mirC q xss = 3) := mirC_q hq
    go_enter Tryz.func92, Tryz.ntmps92
    go_wp2_with fail
    refine (impl_isRing_no _ _ hq).mono ?_
    rintro e w' ⟨rfl, rfl⟩
    go_wp2
    go_ret
    exact ⟨by rw [HN.out]; rfl, B0⟩
end Go.Proofs.YtepobckhfodngaoGreat
