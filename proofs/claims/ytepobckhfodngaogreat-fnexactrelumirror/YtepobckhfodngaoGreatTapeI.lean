/-
  Contracts of chapter 2's program: faults of tapes, and single words.
-/
import Derived.Test.YtepobckhfodngaoGreatTapeS
import Derived.Test.YtepobckhfodngaoGreatEl
namespace Go.Proofs.YtepobckhfodngaoGreat
open Go.ChangeShapes Go.WideShapes Go.ChangeAt Go.RowKit
set_option linter.unusedVariables false

theorem rowC_el {xs : List Int} (h : ¬ 900 < xs.length) : rowC xs = elC 256 xs := by
  by_cases k : okE 256 xs = true
  · rw [show elC 256 xs = 0 from if_pos k]
    exact rowC_ok h ((okB_iff xs).2 fun j hj => by have := (okE_iff 256 xs).1 k j hj; omega)
  · rw [show elC 256 xs = 3 from if_neg k]
    exact rowC_bad h (fun h' => k ((okE_iff 256 xs).2 fun j hj => by have := (okB_iff xs).1 h' j hj; omega))
set_option maxHeartbeats 1000000 in
theorem impl_laneFault (v : Value) (xs : List Int) (w : World) (hv : Reads w .i64 v xs) :
    Calls Tryz.prog 129 #[v] w fun e w' => e = .returned (.int .i64 (rowC xs)) ∧ w = w' := by
  have hm := hv.le
  have K := impl_elementsFault 256 v xs w hv
  obtain ⟨a, cap, rfl⟩ := hv.shp
  clear hv
  unfold maxLen at hm
  by_cases hmany : 900 < xs.length
  · have HN : Hid (rowC xs = 2) := rowC_many hmany
    clear K
    go_enter Tryz.func129, Tryz.ntmps129
    go_wp2
    go_ret
    exact ⟨by rw [HN.out]; rfl, rfl⟩
  · have HN : Hid (rowC xs = elC 256 xs) := rowC_el hmany
    generalize elC 256 xs = r at *
    go_enter Tryz.func129, Tryz.ntmps129
    go_wp2_with fail
    refine K.mono ?_
    rintro e w' ⟨rfl, rfl⟩
    go_wp2
    go_ret
    exact ⟨by rw [HN.out]; rfl, rfl⟩
set_option maxHeartbeats 1000000 in
theorem impl_TapeFault (v : Value) (xss : List (List Int)) (w : World) (hv : ReadsM w v xss) :
    Calls Tryz.prog 113 #[.agg #[v]] w fun e w' => e = .returned (.int .i64 (tapeC xss)) ∧ Below w.heap.size w w' := by
  have hb : Below w.heap.size w (w.alloc (.cells #[v] 37)) := (by repeat (first | exact Below.refl _ _ | refine Below.drew ?_ | refine below_drewN ?_ _ | refine Below.setCell ?_ (by first | omega | (simp; done) | (simp; omega)) _ | refine Below.alloc ?_ (by first | omega | (simp; done) | (simp; omega)) _))
  have hv1 := hv.below hb
  obtain ⟨a, cap, rfl, hm, hA⟩ := hv1
  clear hv
  unfold maxLen at hm
  by_cases hl : xss.length = 4
  · obtain ⟨g, o, rfl, hlt0, hc⟩ := hA (by intro h; rw [h] at hl; simp at hl)
    have HL : Hid (xss.length = 4) := hl
    have HT : Hid (tapeC xss = rowsC xss) := if_pos hl
    rw [hl] at hb hc ⊢
    clear hA hm hl
    go_enter Tryz.func113, Tryz.ntmps113
    go_wp2_with fail
    go_loop [4, 5, 13] (fun _ _ j => ∃ k : Nat, k ≤ 4 ∧ j = .int .i64 k ∧ ∀ m, m < k → rowC (xss.getD m []) = 0) (fun _ _ j => 4 - (intOf j).toNat)
    case atStart => exact ⟨0, Nat.zero_le _, rfl, fun m hm => by omega⟩
    case round =>
      obtain ⟨k, hk, rfl, hg⟩ := hrel
      by_cases hlt : k < 4
      · obtain ⟨p, c, c0, hr⟩ := hc k hlt
        have HG : Hid (∀ m, m < k → rowC (xss.getD m []) = 0) := hg
        have HF := fun h => rowsC_first xss k (by rw [HL.out]; exact hlt) HG.out h
        have hi : (k : Int) < 4 := by omega
        clear hg hc
        generalize hys : xss.getD k [] = ys at *
        have HY : Hid (xss.getD k [] = ys) := hys
        clear hys
        by_cases h0 : rowC ys = 0
        · have HG' : Hid (∀ m, m < k + 1 → rowC (xss.getD m []) = 0) := fun m hm => by
            rcases Nat.lt_or_ge m k with h | h
            · exact HG.out m h
            · rw [show m = k by omega, HY.out]; exact h0
          have K := fun w h => impl_laneFault (.slice p ys.length c) ys w h
          rw [h0] at K
          clear HF h0
          go_wp2_with fail
          refine (K _ hr).mono ?_
          rintro e w' ⟨rfl, rfl⟩
          go_wp2
          go_round
          case rel => exact ⟨k + 1, by omega, by go_num, HG'.out⟩
          case measure => simp [intOf]; omega
        · have HN : Hid (tapeC xss = rowC ys) := HT.out.trans (HF h0)
          have K := fun w h => impl_laneFault (.slice p ys.length c) ys w h
          have hne : (rowC ys == 0) = false := by simpa using h0
          clear HF
          generalize rowC ys = r at *
          go_wp2_with fail
          refine (K _ hr).mono ?_
          rintro e w' ⟨rfl, rfl⟩
          go_wp2
          go_ret
          exact ⟨by rw [HN.out]; rfl, hb⟩
      · obtain rfl : k = 4 := by omega
        have HN : Hid (tapeC xss = 0) := HT.out.trans (rowsC_all xss fun j hj => hg j (by rw [HL.out] at hj; exact hj))
        clear hg hc
        go_wp2
        go_ret
        exact ⟨by rw [HN.out]; rfl, hb⟩
  · have HN : Hid (tapeC xss = 1) := if_neg hl
    have hne : ((xss.length : Int) == 4) = false := by simp; omega
    clear hA
    go_enter Tryz.func113, Tryz.ntmps113
    go_wp2
    go_ret
    exact ⟨by rw [HN.out]; rfl, hb⟩
end Go.Proofs.YtepobckhfodngaoGreat
