/-
  Contracts of chapter 3's model: mirrors that are made.
-/
import Derived.Test.YtepobckhfodngaoGreatMirV
import Derived.Test.YtepobckhfodngaoGreatCopy
import Derived.Test.YtepobckhfodngaoGreatApp
namespace Go.Proofs.YtepobckhfodngaoGreat
open Go.ChangeShapes Go.WideShapes Go.ChangeAt Go.RowKit
set_option linter.unusedVariables false

def mirRows (xs : List Int) : List (List Int) := (List.range 4).map fun i => xs.set i 0
set_option maxHeartbeats 4000000 in
set_option maxRecDepth 100000 in
theorem spec_l3Of (q : Int) (v : Value) (xs : List Int) (w : World) (hv : Reads w .i64 v xs) (hl : xs.length = 4) :
    Calls Tryz.prog 105 #[.int .i64 q, v] w fun e w' => ∃ u b0, e = .returned u ∧ OwMirror w' u ⟨q, mirRows xs⟩ b0 ∧ (∀ y ∈ b0, w.heap.size ≤ y) ∧ Below w.heap.size w w' := by
  obtain ⟨i0, hi, hz0, hz1, hz2⟩ := info_parts Tryz.infoS
  have Y0 : Blk ((w.alloc (.cells #[.int .i64 0, .slice none 0 0] 36)).alloc (.cells #[.int .i64 q, .slice none 0 0] 36)) w.heap.size 36 #[.int .i64 0, .slice none 0 0] := (Blk.new w _ _).alloc _
  have Z0 : Blk ((w.alloc (.cells #[.int .i64 0, .slice none 0 0] 36)).alloc (.cells #[.int .i64 q, .slice none 0 0] 36)) (w.heap.size + 1) 36 #[.int .i64 q, .slice none 0 0] := by simpa using Blk.new (w.alloc (.cells #[.int .i64 0, .slice none 0 0] 36)) 36 #[.int .i64 q, .slice none 0 0]
  have B0 : Below w.heap.size w ((w.alloc (.cells #[.int .i64 0, .slice none 0 0] 36)).alloc (.cells #[.int .i64 q, .slice none 0 0] 36)) := (by repeat (first | exact Below.refl _ _ | refine Below.drew ?_ | refine below_drewN ?_ _ | refine Below.setCell ?_ (by first | omega | (simp; done) | (simp; omega)) _ | refine Below.alloc ?_ (by first | omega | (simp; done) | (simp; omega)) _))
  have HL : Hid (xs.length = 4) := hl
  have HV : Hid (Reads w .i64 v xs) := hv
  clear hv hl
  go_enter Tryz.func105, Tryz.ntmps105
  go_wp2
  go_loopw [6, 7] (fun i _ wr => ∃ k : Nat, ∃ ov : Value, ∃ vs : List Value, ∃ bo : List Nat, ∃ bi : List (List Nat), k ≤ 4 ∧ i = .int .i64 k ∧ Blk wr w.heap.size 36 #[.int .i64 0, .slice none 0 0] ∧ Blk wr (w.heap.size + 1) 36 #[.int .i64 q, ov] ∧ Own wr 25 1 ov k vs bo ∧ Rows wr vs ((mirRows xs).take k) bi ∧ (bo ++ bi.flatten).Nodup ∧ (∀ x ∈ bo ++ bi.flatten, w.heap.size + 1 < x) ∧ Below w.heap.size w wr) (fun i _ _ => 4 - (intOf i).toNat)
  case atStart => exact ⟨0, _, [], [], [], Nat.zero_le _, rfl, Y0, Z0, ⟨rfl, .inl ⟨rfl, rfl, rfl⟩⟩, trivial, by simp, by simp, B0⟩
  case round =>
    obtain ⟨k, ov, vs, bo, bi, hk, rfl, Y, Z, hO, hR, hnd, hgt, B⟩ := hrel
    clear Y0 Z0 B0
    by_cases hlt : k < 4
    · have hi' : (k : Int) < 4 := by omega
      have hi0 : (0 : Int) ≤ (k : Int) := by omega
      have HT : Hid ((mirRows xs).take (k + 1) = (mirRows xs).take k ++ [xs.set k 0]) := by
        show _ = _
        rw [List.take_succ_eq_append_getElem (by simp [mirRows]; omega)]
        simp [mirRows]
      obtain ⟨po, co, rfl⟩ := Own.value hO
      have lt0 := Own.lt hO
      have lt1 := hR.lt
      go_wp2_with fail
      refine (spec_l1Copy _ xs _ (HV.out.below B) (by rw [HL.out]; omega)).mono ?_
      rintro e w1 ⟨u, lb, rfl, hI, hlb, Bq⟩
      obtain ⟨te, hI⟩ := hI
      obtain ⟨gl, cl, rfl, rfl, -, -⟩ := Own.shape hI (by rw [HL.out]; omega)
      rw [HL.out] at hI ⊢
      have hIc : w1.cell? ⟨gl, k, none⟩ = some (.int .i64 (xs.getD k 0)) := by
        have := Own.cell (h := hI) k (by omega)
        rw [this]
        have hk4 : k < xs.length := by rw [HL.out]; exact hlt
        simp [hk4]
      have hIf := Own.frozen hI k
      have Y1 := Y.keep Bq
      have Z1 := Z.keep Bq
      have hO1 := Own.keep hO Bq
      have hR1 := hR.keep Bq
      have B1 := B.trans (Bq.mono B.size)
      have gl0 : wr.heap.size ≤ gl := hlb gl (by simp)
      have gl1 : gl < w1.heap.size := Own.lt hI gl (by simp)
      have zl := Z.lt
      have SO : Off [gl] w1 (w1.setCell ⟨gl, k, none⟩ (.int .i64 0)) := (Off.refl _ _).setCell _ _ (by simp)
      have hI2 : Ints (w1.setCell ⟨gl, k, none⟩ (.int .i64 0)) (.slice (some ⟨gl, 0, none⟩) 4 cl) (xs.set k 0) [gl] := by
        have := Own.set hI k (.int .i64 0)
        refine ⟨te, ?_⟩
        rw [List.length_set, HL.out]
        simpa [List.map_set] using this
      have Y2 := Y1.off SO (by simp; omega)
      have Z2 := Z1.off SO (by simp; omega)
      have hO2 := Own.off hO1 SO (fun x hx hm => by have := lt0 x hx; simp at hm; omega)
      have hR2 := hR1.off SO (fun x hx hm => by have := lt1 x hx; simp at hm; omega)
      have B2 : Below w.heap.size w (w1.setCell ⟨gl, k, none⟩ (.int .i64 0)) := B1.trans (SO.toBelow B1.size (by have := B.size; simp; omega))
      clear Y Z hO hR B Y1 Z1 hO1 hR1 B1 hlb Bq
      have za := Z2.at.1
      have zb := Z2.at.2
      have zl2 := Z2.lt
      have sz1 : (w1.setCell ⟨gl, k, none⟩ (.int .i64 0)).heap.size = w1.heap.size := by simp
      generalize xs.getD k 0 = y at *
      generalize hys : xs.set k 0 = ys at *
      have HY : Hid (ys.length = 4) := by show _ = _; rw [← hys, List.length_set, HL.out]
      clear hys hI SO
      go_wp2_with (at_builtin; refine wpList_append_Own rfl _ _ 22 rfl 25 i0 (.slice none 0 0) 1 24 Tryz.underlying22 hi hz0 hz1 hz2 rfl (by decide) _ _ _ bo rfl (Own.alloc hO2 _) ⟨w1.heap.size, 0, none⟩ 1 1 [.slice (some ⟨gl, 0, none⟩) 4 cl] rfl rfl ?c1 ?c2 ?c3 ?c4 ?c5 ?_)
      case c1 => rw [← sz1]; exact one_new (Blk.new _ _ _)
      case c2 => intro u hu; simp at hu; subst hu; rfl
      case c3 => omega
      case c4 => unfold maxLen; omega
      case c5 => omega
      intro g cap w3 hO3 hoff hg3
      have lt2 := Own.lt hO2
      have lt3 := hR2.lt
      clear hIc hIf za zb
      generalize w1.setCell ⟨gl, k, none⟩ (.int .i64 0) = w2 at *
      have hR3 := hR2.keep ((Below.refl w2.heap.size w2).alloc (Nat.le_refl _) (.cells #[.slice (some ⟨gl, 0, none⟩) 4 cl] 25))
      have hI3 := Ints.alloc hI2 (.cells #[.slice (some ⟨gl, 0, none⟩) 4 cl] 25)
      obtain ⟨R3, N3⟩ := Rows.push hR3 hI3 hoff hnd (fun x hx hm => by simp at hx; rcases List.mem_append.1 hm with h | h; (have := lt0 x h; omega); (have := lt1 x h; omega)) hI2.nodup (hg3.imp id (fun h => by simp; omega))
      have hsz2 := B2.size
      have zg : ∀ x ∈ [g] ++ (bi ++ [[gl]]).flatten, w.heap.size + 1 < x := by
        intro x hx
        simp only [List.flatten_append, List.flatten_cons, List.flatten_nil, List.append_nil, List.mem_append] at hx
        rcases hx with hx | hx | hx
        · simp at hx
          subst hx
          rcases hg3 with h | h
          · exact hgt x (by rw [h]; simp)
          · (try simp at h); omega
        · exact hgt x (List.mem_append_right _ hx)
        · simp at hx; omega
      have Y3 := (Y2.alloc (.cells #[.slice (some ⟨gl, 0, none⟩) 4 cl] 25)).off hoff (fun hm => by have := hgt _ (List.mem_append_left _ hm); omega)
      have Z3 := (Z2.alloc (.cells #[.slice (some ⟨gl, 0, none⟩) 4 cl] 25)).off hoff (fun hm => by have := hgt _ (List.mem_append_left _ hm); omega)
      have B3 : Below w.heap.size w w3 := (B2.alloc B2.size (.cells #[.slice (some ⟨gl, 0, none⟩) 4 cl] 25)).trans (hoff.toBelow (by simp; omega) (fun x hx => by have := hgt x (List.mem_append_left _ hx); omega))
      rw [← HT.out] at R3
      have OO : ∀ W, Off [w.heap.size + 1] w3 W → Blk W (w.heap.size + 1) 36 #[.int .i64 q, .slice (some ⟨g, 0, none⟩) (k + 1) cap] → (k + 1 ≤ 4 ∧ Value.int .i64 ((k : Int) + 1) = .int .i64 ((k + 1 : Nat) : Int) ∧ Blk W w.heap.size 36 #[.int .i64 0, .slice none 0 0] ∧ Blk W (w.heap.size + 1) 36 #[.int .i64 q, .slice (some ⟨g, 0, none⟩) (k + 1) cap] ∧ Own W 25 1 (.slice (some ⟨g, 0, none⟩) (k + 1) cap) (k + 1) (vs ++ [.slice (some ⟨gl, 0, none⟩) 4 cl]) [g] ∧ Rows W (vs ++ [.slice (some ⟨gl, 0, none⟩) 4 cl]) ((mirRows xs).take (k + 1)) (bi ++ [[gl]]) ∧ ([g] ++ (bi ++ [[gl]]).flatten).Nodup ∧ (∀ x ∈ [g] ++ (bi ++ [[gl]]).flatten, w.heap.size + 1 < x) ∧ Below w.heap.size w W) := fun W OO ZW => ⟨by omega, by rw [Int.natCast_add]; rfl, Y3.off OO (by simp), ZW, Own.off hO3 OO (fun x hx hm => by have := zg x (List.mem_append_left _ hx); simp at hm; omega), R3.off OO (fun x hx hm => by have := zg x (List.mem_append_right _ hx); simp at hm; omega), N3, zg, B3.trans (OO.toBelow B3.size (by simp))⟩
      have za3 := Z3.at.1
      have zb3 := Z3.at.2
      clear hI2 hI3 hR2 hR3 hO2 hoff Y2 Z2 B2 hnd hgt lt0 lt1 lt2 lt3
      go_wp2
      go_roundw
      case rel => exact ⟨k + 1, _, _, _, _, OO _ ((Off.refl _ _).setCell _ _ (by simp)) (Blk.of_eq (Z3.set 1 _) (by simp))⟩
      case measure => simp [intOf]; omega
    · obtain rfl : k = 4 := by omega
      have e : (mirRows xs).take 4 = mirRows xs := List.take_of_length_le (by simp [mirRows])
      have hl4 : (mirRows xs).length = 4 := by simp [mirRows]
      rw [e] at hR
      obtain ⟨po, co, rfl⟩ := Own.value hO
      have hM : Mat wr (.slice po 4 co) (mirRows xs) (bo ++ bi.flatten) := ⟨vs, bo, bi, by rw [hl4]; exact hO, hR, rfl, hnd⟩
      have ya := Y.at.1
      have yb := Y.at.2
      have za := Z.at.1
      have HM4 : Hid ((mirRows xs).length = 4) := hl4
      clear hO hR hl4 e
      have OO : ∀ W, Off [w.heap.size] wr W → (∃ u b0, Ending.returned (.agg #[.int .i64 q, .slice po 4 co]) = .returned u ∧ OwMirror W u ⟨q, mirRows xs⟩ b0 ∧ (∀ y ∈ b0, w.heap.size ≤ y) ∧ Below w.heap.size w W) := fun W OO => ⟨_, _, rfl, ⟨po, co, by rw [HM4.out], by rw [HM4.out]; exact hM.off OO (fun x hx hm => by have := hgt x hx; simp at hm; omega)⟩, fun y hy => by have := hgt y hy; omega, B.trans (OO.toBelow B.size (by simp))⟩
      go_wp2
      exact bodyPost_ret (v := .agg #[.int .i64 q, .slice po 4 co]) (by simp [results, Tryz.results105, go_sem, ya]) rfl (OO _ (by repeat (first | exact Off.refl _ _ | refine Off.setCell ?_ _ _ (by simp))))
def badR (c : Int) : MMirrorResult := ⟨c, ⟨0, []⟩⟩
def mirrorOfR (q : Int) (xs : List Int) : MMirrorResult := if isQ q then (if xs.length = 4 then (if okV q xs = true then ⟨0, ⟨q, mirRows xs⟩⟩ else badR 3) else badR 1) else badR 3
theorem sl_mirRows {xs : List Int} (h : xs.length = 4) : sl (mirRows xs) = 16 := by simp [mirRows, List.range_succ, sl, h]
theorem mirrorOfR_cnt (q : Int) (xs : List Int) : cntMirrorResult (mirrorOfR q xs) ≤ 268435456 := by
  unfold mirrorOfR
  split
  · split
    · split
      · show sl (mirRows xs) ≤ _
        rw [sl_mirRows (by assumption)]; omega
      · show sl [] ≤ _; simp [sl]
    · show sl [] ≤ _; simp [sl]
  · show sl [] ≤ _; simp [sl]
end Go.Proofs.YtepobckhfodngaoGreat
