/-
  Contracts of chapter 2's model: tapes that are copied; what a party is told.
-/
import Derived.Test.YtepobckhfodngaoGreatTapeF
import Derived.Test.YtepobckhfodngaoGreatApp
namespace Go.Proofs.YtepobckhfodngaoGreat
open Go.ChangeShapes Go.WideShapes Go.ChangeAt Go.RowKit
set_option linter.unusedVariables false

theorem rows_drop {w : World} : ∀ {vs : List Value} {xss : List (List Int)} {bi : List (List Nat)}, Rows w vs xss bi → ∀ j, Rows w (vs.set j (.slice none 0 0)) (xss.set j []) (bi.set j [])
  | [], [], [], _, _ => trivial
  | _ :: _, _ :: _, _ :: _, h, 0 => ⟨Ints.nil _, h.2⟩
  | _ :: _, _ :: _, _ :: _, h, j + 1 => ⟨h.1, rows_drop h.2 j⟩
theorem flat_set_sub : ∀ (bi : List (List Nat)) (j : Nat) {x : Nat}, x ∈ (bi.set j []).flatten → x ∈ bi.flatten
  | [], _, _, h => by simp at h
  | b :: r, 0, x, h => by simp at h ⊢; exact .inr h
  | b :: r, j + 1, x, h => by
    rw [List.set_cons_succ, List.flatten_cons, List.mem_append] at h
    rw [List.flatten_cons, List.mem_append]
    exact h.imp id (flat_set_sub r j)
theorem flat_set_nodup : ∀ (bi : List (List Nat)) (j : Nat), bi.flatten.Nodup → (bi.set j []).flatten.Nodup
  | [], _, _ => by simp
  | b :: r, 0, h => by
    rw [List.flatten_cons, List.nodup_append] at h
    simpa using h.2.1
  | b :: r, j + 1, h => by
    rw [List.flatten_cons, List.nodup_append] at h
    rw [List.set_cons_succ, List.flatten_cons, List.nodup_append]
    exact ⟨h.1, flat_set_nodup r j h.2.1, fun x hx y hy e => h.2.2 x hx y (flat_set_sub r j hy) e⟩
set_option maxHeartbeats 4000000 in
set_option maxRecDepth 100000 in
theorem spec_l2Copy (v : Value) (xss : List (List Int)) (w : World) (hv : RdTape w v xss) (hl : tot xss ≤ 1048576) :
    Calls Tryz.prog 60 #[v] w fun e w' => ∃ u b0, e = .returned u ∧ OwTape w' u xss b0 ∧ (∀ y ∈ b0, w.heap.size ≤ y) ∧ Below w.heap.size w w' := by
  obtain ⟨i0, hi, hz0, hz1, hz2⟩ := info_parts Tryz.infoS
  obtain ⟨p, c, rfl, hv⟩ := hv
  have ht := tot_eq xss
  have HS : Hid (∀ k, k < xss.length → (xss.getD k []).length ≤ 1048576) := fun k hk => by have := row_le xss k hk; omega
  have hn0 : xss.length ≤ 1048576 := by omega
  have hmL := hn0
  clear ht hl
  have X0 : Blk (((w.alloc (.cells #[.slice p xss.length c] 37)).alloc (.cells #[.slice none 0 0] 37)).alloc (.cells #[.slice none 0 0] 37)) w.heap.size 37 #[.slice p xss.length c] := ((Blk.new w _ _).alloc _).alloc _
  have Y0 : Blk (((w.alloc (.cells #[.slice p xss.length c] 37)).alloc (.cells #[.slice none 0 0] 37)).alloc (.cells #[.slice none 0 0] 37)) (w.heap.size + 1) 37 #[.slice none 0 0] := by simpa using (Blk.new (w.alloc (.cells #[.slice p xss.length c] 37)) 37 #[.slice none 0 0]).alloc (.cells #[.slice none 0 0] 37)
  have Z0 : Blk (((w.alloc (.cells #[.slice p xss.length c] 37)).alloc (.cells #[.slice none 0 0] 37)).alloc (.cells #[.slice none 0 0] 37)) (w.heap.size + 1 + 1) 37 #[.slice none 0 0] := by simpa using Blk.new ((w.alloc (.cells #[.slice p xss.length c] 37)).alloc (.cells #[.slice none 0 0] 37)) 37 #[.slice none 0 0]
  have B0 : Below w.heap.size w (((w.alloc (.cells #[.slice p xss.length c] 37)).alloc (.cells #[.slice none 0 0] 37)).alloc (.cells #[.slice none 0 0] 37)) := (by repeat (first | exact Below.refl _ _ | refine Below.drew ?_ | refine below_drewN ?_ _ | refine Below.setCell ?_ (by first | omega | (simp; done) | (simp; omega)) _ | refine Below.alloc ?_ (by first | omega | (simp; done) | (simp; omega)) _))
  go_enter Tryz.func60, Tryz.ntmps60
  go_wp2
  go_loopw [4] (fun i wr => ∃ k : Nat, ∃ ov : Value, ∃ vs : List Value, ∃ bo : List Nat, ∃ bi : List (List Nat), k ≤ xss.length ∧ i = .int .i64 k ∧ Blk wr w.heap.size 37 #[.slice p xss.length c] ∧ Blk wr (w.heap.size + 1) 37 #[.slice none 0 0] ∧ Blk wr (w.heap.size + 1 + 1) 37 #[ov] ∧ Own wr 25 1 ov k vs bo ∧ Rows wr vs (xss.take k) bi ∧ (bo ++ bi.flatten).Nodup ∧ (∀ x ∈ bo ++ bi.flatten, w.heap.size + 1 + 1 < x) ∧ Below w.heap.size w wr) (fun i _ => xss.length - (intOf i).toNat)
  case atStart => exact ⟨0, _, [], [], [], Nat.zero_le _, rfl, X0, Y0, Z0, ⟨rfl, .inl ⟨rfl, rfl, rfl⟩⟩, trivial, by simp, by simp, B0⟩
  case round =>
    obtain ⟨k, ov, vs, bo, bi, hk, rfl, X, Y, Z, hO, hR, hnd, hgt, B⟩ := hrel
    clear X0 Y0 Z0 B0
    have xa := X.at.1
    by_cases hlt : k < xss.length
    · have hvr : ReadsM wr (.slice p xss.length c) xss := hv.below B
      obtain ⟨b, off, q, d, rfl, hlt0, c1, r1⟩ := hvr.lane k hlt
      have hvl : vs.length = k := by have := hR.len.1; rw [this]; simp; omega
      have hi' : (k : Int) < (xss.length : Int) := by omega
      have hi0 : (0 : Int) ≤ (k : Int) := by omega
      have HT : Hid (xss.take (k + 1) = xss.take k ++ [xss.getD k []]) := by
        show _ = _
        rw [List.take_succ_eq_append_getElem hlt]
        simp [hlt]
      have hrl := HS.out k hlt
      clear hvr
      obtain ⟨po, co, rfl⟩ := Own.value hO
      generalize hys : xss.getD k [] = ys at *
      clear hys
      have za := Z.at.1
      have zb := Z.at.2
      have zl := Z.lt
      have xl := X.lt
      have hc1 := c1
      have zq : w.heap.size + 1 + 1 < wr.heap.size := zl
      have Rd : Reads wr.drew .i64 (.slice q ys.length d) ys := r1.below (Below.refl _ _).drew
      have hO1 : Own wr.drew 25 1 (.slice po k co) k vs bo := hO
      have hR1 : Rows wr.drew vs (xss.take k) bi := hR.keep (Below.refl _ _).drew
      have X1 : Blk wr.drew w.heap.size 37 #[.slice (some ⟨b, off, none⟩) xss.length c] := X
      have Y1 : Blk wr.drew (w.heap.size + 1) 37 #[.slice none 0 0] := Y
      have Z1 : Blk wr.drew (w.heap.size + 1 + 1) 37 #[.slice po k co] := Z
      have B1 : Below w.heap.size w wr.drew := B.drew
      clear hO hR X Y Z B r1
      go_wp2_with fail
      go_region_law (first | (rw [if_pos (by rfl)]; go_simp; go_at_call 61; refine (spec_l1Copy _ ys _ Rd (by omega)).mono ?_; rintro e w2 ⟨u, bs, rfl, hI, hf, hb2⟩; obtain ⟨pu, cu, rfl⟩ := Ints.value hI; clear za zb zl xl xa hc1; have lt0 := hO1.lt; have lt1 := hR1.lt; replace X1 := X1.keep hb2; replace Y1 := Y1.keep hb2; replace Z1 := Z1.keep hb2; replace B1 := B1.trans (hb2.mono B1.size); replace hO1 := Own.keep hO1 hb2; replace hR1 := hR1.keep hb2; have za := Z1.at.1; have zb := Z1.at.2; have zl := Z1.lt; dsimp only) | (refine step_append_Own rfl (.tmp 14) (.tmp 21) 22 rfl 25 i0 (.slice none 0 0) 1 24 Tryz.underlying22 hi hz0 hz1 hz2 rfl (by decide) (.slice po k co) k vs bo rfl (Own.alloc hO1 _) ⟨w2.heap.size, 0, none⟩ 1 1 [.slice pu ys.length cu] rfl rfl (one_new (Blk.new _ _ _)) (by intro u hu; simp at hu; subst hu; rfl) (by omega) (by unfold maxLen; omega) (by omega) ?_; intro g cap w3 hO3 hOff hbo; have Z3 := (Z1.alloc _).off hOff (fun hm => by have := hgt _ (List.mem_append_left _ hm); omega); have za3 := Z3.at.1; have zb3 := Z3.at.2))
      all_goals
        have hwd : wr.drew.heap.size = wr.heap.size := rfl
        have hR2 := hR1.keep ((Below.refl w2.heap.size w2).alloc (Nat.le_refl _) (.cells #[.slice pu ys.length cu] 25))
        have hI2 := Ints.alloc hI (.cells #[.slice pu ys.length cu] 25)
        obtain ⟨R3, N3⟩ := Rows.push hR2 hI2 hOff hnd (fun x hx hm => by have := hf x hx; rcases List.mem_append.1 hm with h | h; (have := lt0 x h; omega); (have := lt1 x h; omega)) hI.nodup hbo
        have szw := hb2.size
        have B2 := B1.size
        have zg : ∀ x ∈ [g] ++ (bi ++ [bs]).flatten, w.heap.size + 1 + 1 < x := by
          intro x hx
          simp only [List.flatten_append, List.flatten_cons, List.flatten_nil, List.append_nil, List.mem_append] at hx
          rcases hx with hx | hx | hx
          · simp at hx
            subst hx
            rcases hbo with h | h
            · exact hgt x (by rw [h]; simp)
            · simp at h; omega
          · exact hgt x (List.mem_append_right _ hx)
          · have := hf x hx; omega
        have X3 := (X1.alloc (.cells #[.slice pu ys.length cu] 25)).off hOff (fun hm => by have := hgt _ (List.mem_append_left _ hm); omega)
        have Y3 := (Y1.alloc (.cells #[.slice pu ys.length cu] 25)).off hOff (fun hm => by have := hgt _ (List.mem_append_left _ hm); omega)
        have B3 : Below w.heap.size w w3 := (B1.alloc B1.size (.cells #[.slice pu ys.length cu] 25)).trans (hOff.toBelow (by simp; omega) (fun x hx => by have := hgt x (List.mem_append_left _ hx); omega))
        rw [← HT.out] at R3
        clear hI hI2 hR1 hR2 hO1 hOff hb2 hf X1 Y1 Z1 B1 za zb zl Rd hnd hgt
        have OO : ∀ W, Off [w.heap.size + 1 + 1] w3 W → Blk W (w.heap.size + 1 + 1) 37 #[.slice (some ⟨g, 0, none⟩) (k + 1) cap] → (k + 1 ≤ xss.length ∧ Value.int .i64 ((k : Int) + 1) = .int .i64 ((k + 1 : Nat) : Int) ∧ Blk W w.heap.size 37 #[.slice (some ⟨b, off, none⟩) xss.length c] ∧ Blk W (w.heap.size + 1) 37 #[.slice none 0 0] ∧ Blk W (w.heap.size + 1 + 1) 37 #[.slice (some ⟨g, 0, none⟩) (k + 1) cap] ∧ Own W 25 1 (.slice (some ⟨g, 0, none⟩) (k + 1) cap) (k + 1) (vs ++ [.slice pu ys.length cu]) [g] ∧ Rows W (vs ++ [.slice pu ys.length cu]) (xss.take (k + 1)) (bi ++ [bs]) ∧ ([g] ++ (bi ++ [bs]).flatten).Nodup ∧ (∀ x ∈ [g] ++ (bi ++ [bs]).flatten, w.heap.size + 1 + 1 < x) ∧ Below w.heap.size w W) := fun W OO ZW => ⟨by omega, by rw [Int.natCast_add]; rfl, X3.off OO (by simp; omega), Y3.off OO (by simp), ZW, Own.off hO3 OO (fun x hx hm => by have := zg x (List.mem_append_left _ hx); simp at hm; omega), R3.off OO (fun x hx hm => by have := zg x (List.mem_append_right _ hx); simp at hm; omega), N3, zg, B3.trans (OO.toBelow B3.size (by simp; omega))⟩
        go_wp2
        go_roundw
        case rel => exact ⟨k + 1, _, _, _, _, OO _ ((Off.refl _ _).setCell _ _ (by simp)) (Blk.of_eq (Z3.set 0 _) (by simp))⟩
        case measure => simp [intOf]; omega
    · obtain rfl : k = xss.length := by omega
      have e : xss.take xss.length = xss := List.take_of_length_le (Nat.le_refl _)
      rw [e] at hR
      have hM : Mat wr ov xss (bo ++ bi.flatten) := ⟨vs, bo, bi, hO, hR, rfl, hnd⟩
      obtain ⟨po, co, rfl⟩ := hM.value
      have ya := Y.at.1
      have yb := Y.at.2
      have za := Z.at.1
      clear hO hR
      have OO : ∀ W, Off [w.heap.size + 1] wr W → (∃ u b0, Ending.returned (.agg #[.slice po xss.length co]) = .returned u ∧ OwTape W u xss b0 ∧ (∀ y ∈ b0, w.heap.size ≤ y) ∧ Below w.heap.size w W) := fun W OO => ⟨_, _, rfl, ⟨po, co, rfl, hM.off OO (fun x hx hm => by have := hgt x hx; simp at hm; omega)⟩, fun y hy => by have := hgt y hy; omega, B.trans (OO.toBelow B.size (by simp))⟩
      go_wp2
      exact bodyPost_ret (v := .agg #[.slice po xss.length co]) (by simp [results, Tryz.results60, go_sem, ya]) rfl (OO _ (by repeat (first | exact Off.refl _ _ | refine Off.setCell ?_ _ _ (by simp))))
/-- a lane is taken out of a copy -/
theorem Mat.drop {w : World} {g n cap j : Nat} {xss : List (List Int)} {bs : List Nat} (h : Mat w (.slice (some ⟨g, 0, none⟩) n cap) xss bs) (hj : j < xss.length) : Mat (w.setCell ⟨g, j, none⟩ (.slice none 0 0)) (.slice (some ⟨g, 0, none⟩) n cap) (xss.set j []) bs ∨ ∃ cs, Mat (w.setCell ⟨g, j, none⟩ (.slice none 0 0)) (.slice (some ⟨g, 0, none⟩) n cap) (xss.set j []) cs ∧ ∀ x ∈ cs, x ∈ bs := by
  obtain ⟨vs, bo, bi, h1, h2, rfl, h3⟩ := h
  obtain ⟨a, c, e⟩ := Own.value h1
  simp at e
  obtain ⟨rfl, rfl, rfl⟩ := e
  obtain ⟨g', c', hbo, e, _⟩ := Own.shape h1 (by omega)
  simp at e
  obtain ⟨rfl, rfl⟩ := e
  subst hbo
  obtain ⟨n1, n2, n3⟩ := List.nodup_append.1 h3
  have hg : g ∉ bi.flatten := fun hm => n3 g (by simp) g hm rfl
  refine .inr ⟨[g] ++ (bi.set j []).flatten, ⟨vs.set j (.slice none 0 0), [g], bi.set j [], ?_, ?_, rfl, ?_⟩, ?_⟩
  · have := Own.set h1 j (.slice none 0 0)
    simpa using this
  · exact rows_drop (h2.frame fun x hx => Below.heap_setCell _ ⟨g, j, none⟩ _ _ (fun e => hg (by have e' : x = g := e; rw [← e']; exact hx))) j
  · exact List.nodup_append.2 ⟨by simp, flat_set_nodup bi j n2, fun x hx y hy e => n3 x hx y (flat_set_sub bi j hy) e⟩
  · intro x hx
    rcases List.mem_append.1 hx with hx | hx
    · exact List.mem_append_left _ hx
    · exact List.mem_append_right _ (flat_set_sub bi j hx)
end Go.Proofs.YtepobckhfodngaoGreat
