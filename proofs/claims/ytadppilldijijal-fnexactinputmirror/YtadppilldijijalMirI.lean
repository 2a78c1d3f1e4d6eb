/-
  Contracts of chapter 3 of the program: views that are arrays.
-/
import Derived.Test.YtadppilldijijalMirO
import Derived.Test.YtadppilldijijalElem
import Derived.Test.YtadppilldijijalEl
namespace Go.Proofs.Ytadppilldijijal
open Go.ChangeShapes Go.WideShapes Go.ChangeAt Go.RowKit
set_option linter.unusedVariables false

/-- an array of whole numbers, as a value -/
def ag (xs : List Int) : Value := .agg (xs.map (Value.int .i64)).toArray
theorem four {α : Type} : ∀ (xs : List α), xs.length = 4 → ∃ a b c d, xs = [a, b, c, d]
  | [a, b, c, d], _ => ⟨a, b, c, d, rfl⟩
  | [], h => by simp at h
  | [_], h => by simp at h
  | [_, _], h => by simp at h
  | [_, _, _], h => by simp at h
  | _ :: _ :: _ :: _ :: _ :: _, h => by simp at h
theorem ag4 (a b c d : Int) : ag [a, b, c, d] = .agg #[.int .i64 a, .int .i64 b, .int .i64 c, .int .i64 d] := rfl
set_option maxHeartbeats 1000000 in
set_option maxRecDepth 100000 in
theorem impl_viewOf (v : Value) (xs : List Int) (w : World) (hv : Reads w .i64 v xs) (h4 : xs.length = 4) :
    Calls Try.prog 93 #[v] w fun e w' => e = .returned (ag xs) ∧ Below w.heap.size w w' := by
  obtain ⟨i0, hi, hz0, hz1, hz2⟩ := info_parts Try.infoI
  obtain ⟨p, ca, rfl⟩ := hv.shp
  have hsz : (Try.prog.info? 2).map (·.size) = some 1 := by rw [hi]; simp [hz1]
  obtain ⟨w1, ew1⟩ : ∃ x, x = (w.alloc (.cells #[.int .i64 0, .int .i64 0, .int .i64 0, .int .i64 0] 104)).alloc (.cells #[.int .i64 0, .int .i64 0, .int .i64 0, .int .i64 0] 104) := ⟨_, rfl⟩
  have B1 : Below w.heap.size w w1 := by rw [ew1]; exact (by repeat (first | exact Below.refl _ _ | refine Below.drew ?_ | refine below_drewN ?_ _ | refine Below.setCell ?_ (by first | omega | (simp; done) | (simp; omega)) _ | refine Below.alloc ?_ (by first | omega | (simp; done) | (simp; omega)) _))
  have X1 : Blk w1 w.heap.size 104 #[.int .i64 0, .int .i64 0, .int .i64 0, .int .i64 0] := by rw [ew1]; exact (Blk.new w _ _).alloc _
  have Y1 : Blk w1 (w.heap.size + 1) 104 #[.int .i64 0, .int .i64 0, .int .i64 0, .int .i64 0] := by rw [ew1]; simpa using Blk.new (w.alloc (.cells #[.int .i64 0, .int .i64 0, .int .i64 0, .int .i64 0] 104)) 104 #[.int .i64 0, .int .i64 0, .int .i64 0, .int .i64 0]
  obtain ⟨ad, rfl, hcell⟩ := (hv.below B1).cells (by intro h; rw [h] at h4; simp at h4)
  have hr := run_copy_row (P := Try.prog) w1 27 27 3 2 (w.heap.size + 1) 0 4 4 ad 4 ca #[.int .i64 0, .int .i64 0, .int .i64 0, .int .i64 0] 104 (xs.map (Value.int .i64)) Try.underlying27 hsz Y1 (by simp [h4]) hcell (by simp [h4]) (by intro u hu; obtain ⟨y, _, rfl⟩ := List.mem_map.1 hu; rfl)
  have hgo : (goInt (xs.map (Value.int .i64)).length) = goInt 4 := by simp [h4]
  rw [hgo] at hr
  obtain ⟨a, b, c, d, rfl⟩ := four xs h4
  have hs := setRow_heap w1 (w.heap.size + 1) #[.int .i64 0, .int .i64 0, .int .i64 0, .int .i64 0] #[.int .i64 a, .int .i64 b, .int .i64 c, .int .i64 d] 104 (0, 0) Y1
  obtain ⟨w2, hrun, Y2, X2, B2⟩ : ∃ w2, (Builtin.copy_ #[27, 27] 3 #[.slice (some ⟨w.heap.size + 1, 0, none⟩) 4 4, .slice (some ad) 4 ca]).run Try.prog w1 = .ok (goInt 4) w2 ∧ Blk w2 (w.heap.size + 1) 104 #[.int .i64 a, .int .i64 b, .int .i64 c, .int .i64 d] ∧ Blk w2 w.heap.size 104 #[.int .i64 0, .int .i64 0, .int .i64 0, .int .i64 0] ∧ Below w.heap.size w w2 := by
    refine ⟨_, hr, hs, ?_, below_setRow B1 (by omega) _⟩
    have hB := below_setRow (g := w.heap.size + 1) (Below.refl (w.heap.size + 1) w1) (Nat.le_refl _) (#[.int .i64 a, .int .i64 b, .int .i64 c, .int .i64 d])
    exact X1.below hB (by omega)
  clear hr hs hgo hcell hv X1 Y1 B1
  have xa := X2.at.1
  have xb := X2.at.2
  have ya := Y2.at.1
  rw [ag4]
  subst ew1
  simp only [List.length_cons, List.length_nil]
  go_enter Try.func93, Try.ntmps93
  go_wp2
  exact bodyPost_ret (v := .agg #[.int .i64 a, .int .i64 b, .int .i64 c, .int .i64 d]) (by simp [results, Try.results93, go_sem, xa]) rfl ⟨rfl, by repeat (first | exact B2 | refine Below.setCell ?_ (by simp) _)⟩
theorem impl_list (xs : List Int) (w : World) (h4 : xs.length = 4) :
    Calls Try.prog 81 #[ag xs] w fun e w' => ∃ g, e = .returned (.slice (some ⟨g, 0, none⟩) 4 4) ∧ Ints w' (.slice (some ⟨g, 0, none⟩) 4 4) xs [g] ∧ w.heap.size ≤ g ∧ Below w.heap.size w w' := by
  obtain ⟨a, b, c, d, rfl⟩ := four xs h4
  rw [ag4]
  clear h4
  go_enter Try.func81, Try.ntmps81
  go_wp2
  go_ret
  exact ⟨_, rfl, ⟨104, by simp, .inr ⟨w.heap.size, 4, _, rfl, rfl, heap_alloc_new _ _, by simp, by unfold maxLen; omega, by simp, by simp⟩⟩, Nat.le_refl _, (by repeat (first | exact Below.refl _ _ | refine Below.drew ?_ | refine below_drewN ?_ _ | refine Below.setCell ?_ (by first | omega | (simp; done) | (simp; omega)) _ | refine Below.alloc ?_ (by first | omega | (simp; done) | (simp; omega)) _))⟩
theorem impl_without (xs : List Int) (i : Nat) (w : World) (h4 : xs.length = 4) (hi : i < 4) :
    Calls Try.prog 94 #[ag xs, .int .i64 i] w fun e w' => e = .returned (ag (xs.set i 0)) ∧ Below w.heap.size w w' := by
  obtain ⟨a, b, c, d, rfl⟩ := four xs h4
  rw [ag4]
  clear h4
  obtain rfl | rfl | rfl | rfl : i = 0 ∨ i = 1 ∨ i = 2 ∨ i = 3 := by omega
  · show Calls _ _ _ _ fun e w' => e = .returned (.agg #[.int .i64 0, .int .i64 b, .int .i64 c, .int .i64 d]) ∧ _
    go_enter Try.func94, Try.ntmps94
    go_wp2
    exact bodyPost_ret (v := .agg #[.int .i64 0, .int .i64 b, .int .i64 c, .int .i64 d]) (by simp [results, Try.results94, go_sem]) rfl ⟨rfl, (by repeat (first | exact Below.refl _ _ | refine Below.drew ?_ | refine below_drewN ?_ _ | refine Below.setCell ?_ (by first | omega | (simp; done) | (simp; omega)) _ | refine Below.alloc ?_ (by first | omega | (simp; done) | (simp; omega)) _))⟩
  · show Calls _ _ _ _ fun e w' => e = .returned (.agg #[.int .i64 a, .int .i64 0, .int .i64 c, .int .i64 d]) ∧ _
    go_enter Try.func94, Try.ntmps94
    go_wp2
    exact bodyPost_ret (v := .agg #[.int .i64 a, .int .i64 0, .int .i64 c, .int .i64 d]) (by simp [results, Try.results94, go_sem]) rfl ⟨rfl, (by repeat (first | exact Below.refl _ _ | refine Below.drew ?_ | refine below_drewN ?_ _ | refine Below.setCell ?_ (by first | omega | (simp; done) | (simp; omega)) _ | refine Below.alloc ?_ (by first | omega | (simp; done) | (simp; omega)) _))⟩
  · show Calls _ _ _ _ fun e w' => e = .returned (.agg #[.int .i64 a, .int .i64 b, .int .i64 0, .int .i64 d]) ∧ _
    go_enter Try.func94, Try.ntmps94
    go_wp2
    exact bodyPost_ret (v := .agg #[.int .i64 a, .int .i64 b, .int .i64 0, .int .i64 d]) (by simp [results, Try.results94, go_sem]) rfl ⟨rfl, (by repeat (first | exact Below.refl _ _ | refine Below.drew ?_ | refine below_drewN ?_ _ | refine Below.setCell ?_ (by first | omega | (simp; done) | (simp; omega)) _ | refine Below.alloc ?_ (by first | omega | (simp; done) | (simp; omega)) _))⟩
  · show Calls _ _ _ _ fun e w' => e = .returned (.agg #[.int .i64 a, .int .i64 b, .int .i64 c, .int .i64 0]) ∧ _
    go_enter Try.func94, Try.ntmps94
    go_wp2
    exact bodyPost_ret (v := .agg #[.int .i64 a, .int .i64 b, .int .i64 c, .int .i64 0]) (by simp [results, Try.results94, go_sem]) rfl ⟨rfl, (by repeat (first | exact Below.refl _ _ | refine Below.drew ?_ | refine below_drewN ?_ _ | refine Below.setCell ?_ (by first | omega | (simp; done) | (simp; omega)) _ | refine Below.alloc ?_ (by first | omega | (simp; done) | (simp; omega)) _))⟩
theorem viewC_el {q : Int} {xs : List Int} (h : xs.length = 4) : viewC q xs = elC q xs := by
  by_cases k : okE q xs = true
  · rw [show elC q xs = 0 from if_pos k]
    exact viewC_ok h ((okV_iff q xs).2 fun j hj => (okE_iff q xs).1 k j hj)
  · rw [show elC q xs = 3 from if_neg k]
    exact viewC_bad h (fun h' => k ((okE_iff q xs).2 fun j hj => (okV_iff q xs).1 h' j hj))
set_option maxHeartbeats 1000000 in
theorem impl_partsFault (q : Int) (v : Value) (xs : List Int) (w : World) (hv : Reads w .i64 v xs) :
    Calls Try.prog 92 #[.int .i64 q, v] w fun e w' => e = .returned (.int .i64 (viewC q xs)) ∧ w = w' := by
  have hm := hv.le
  unfold maxLen at hm
  have K := impl_elementsFault q v xs w hv
  obtain ⟨p, c, rfl⟩ := hv.shp
  clear hv
  by_cases h4 : xs.length = 4
  · have HN : Hid (viewC q xs = elC q xs) := viewC_el h4
    rw [h4] at K ⊢
    clear h4 hm
    generalize elC q xs = r at *
    go_enter Try.func92, Try.ntmps92
    go_wp2_with fail
    refine K.mono ?_
    rintro e w' ⟨rfl, rfl⟩
    go_wp2
    go_ret
    exact ⟨by rw [HN.out]; rfl, rfl⟩
  · have HN : Hid (viewC q xs = 1) := viewC_form h4
    have hne : ((xs.length : Int) == 4) = false := by simp; omega
    clear K
    go_enter Try.func92, Try.ntmps92
    go_wp2
    go_ret
    exact ⟨by rw [HN.out]; rfl, rfl⟩
end Go.Proofs.Ytadppilldijijal
