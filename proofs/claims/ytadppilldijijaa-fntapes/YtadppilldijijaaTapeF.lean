/-
  Contracts of chapter 2: what a party is told of a tape, in the program.
-/
import Derived.Test.YtadppilldijijaaTapeW
import Derived.Test.YtadppilldijijaaCopy
import Derived.Test.YtadppilldijijaaApp
namespace Go.Proofs.Ytadppilldijijaa
open Go.ChangeShapes Go.WideShapes Go.ChangeAt Go.RowKit
set_option linter.unusedVariables false

def tapeForR (xss : List (List Int)) (party : Int) : MTapeResult := if tapeC xss = 0 then (if 0 ≤ party ∧ party ≤ 3 then ⟨0, xss.set party.toNat []⟩ else ⟨3, []⟩) else ⟨tapeC xss, []⟩
theorem tapeForR_fault {xss : List (List Int)} (party : Int) (h : tapeC xss ≠ 0) : tapeForR xss party = ⟨tapeC xss, []⟩ := if_neg h
theorem tapeForR_out {xss : List (List Int)} {party : Int} (h : tapeC xss = 0) (k : ¬ (0 ≤ party ∧ party ≤ 3)) : tapeForR xss party = ⟨3, []⟩ := by unfold tapeForR; rw [if_pos h, if_neg k]
theorem tapeForR_in {xss : List (List Int)} {party : Int} (h : tapeC xss = 0) (k : 0 ≤ party ∧ party ≤ 3) : tapeForR xss party = ⟨0, xss.set party.toNat []⟩ := by unfold tapeForR; rw [if_pos h, if_pos k]
theorem sl_set : ∀ (xss : List (List Int)) (j : Nat), sl (xss.set j []) ≤ sl xss
  | [], _ => by simp
  | x :: r, 0 => by simp [sl]
  | x :: r, j + 1 => by have := sl_set r j; simp only [List.set_cons_succ, sl]; omega
theorem tapeForR_cnt (xss : List (List Int)) (party : Int) (h : totTape xss ≤ 1048576) : cntTapeResult (tapeForR xss party) ≤ 268435456 := by
  unfold totTape at h
  have h1 := sl_le_tot xss
  have h2 := sl_set xss party.toNat
  unfold tapeForR
  split
  · split
    · show sl (xss.set party.toNat []) ≤ _; omega
    · show sl [] ≤ _; simp [sl]
  · show sl [] ≤ _; simp [sl]
/-- a slot of the outer list is filled -/
theorem Mat.fill {w : World} {g k n : Nat} {vs : List Value} {xss : List (List Int)} {bi : List (List Nat)} {u : Value} {ys : List Int} {b : List Nat}
    (ho : Own w 33 1 (.slice (some ⟨g, 0, none⟩) n n) n (vs ++ List.replicate (n - k) (.slice none 0 0)) [g]) (hr : Rows w vs xss bi) (hi : Ints w u ys b) (hk : k < n) (hv : vs.length = k)
    (hnd : (g :: bi.flatten).Nodup) (hd : Dj bi.flatten b) (hgb : g ∉ b) (hbn : b.Nodup) :
    Own (w.setCell ⟨g, k, none⟩ u) 33 1 (.slice (some ⟨g, 0, none⟩) n n) n ((vs ++ [u]) ++ List.replicate (n - (k + 1)) (.slice none 0 0)) [g] ∧ Rows (w.setCell ⟨g, k, none⟩ u) (vs ++ [u]) (xss ++ [ys]) (bi ++ [b]) ∧ (g :: (bi ++ [b]).flatten).Nodup := by
  have hg : g ∉ bi.flatten := (List.nodup_cons.1 hnd).1
  refine ⟨?_, ?_, ?_⟩
  · have := Own.set ho k u
    rwa [nils_set vs n k _ hk hv] at this
  · exact Rows.snoc (hr.frame fun x hx => Below.heap_setCell _ _ _ _ (fun e => hg (by have e' : x = g := e; rw [← e']; exact hx))) (Ints.setOther hi _ _ hgb)
  · simp only [List.flatten_append, List.flatten_cons, List.flatten_nil, List.append_nil]
    rw [← List.cons_append]
    refine List.nodup_append.2 ⟨hnd, hbn, ?_⟩
    intro x hx y hy
    rcases List.mem_cons.1 hx with rfl | hx
    · intro e; exact hgb (e ▸ hy)
    · intro e; exact hd x hx (e ▸ hy)
set_option maxHeartbeats 2000000 in
theorem impl_TapeFor (v : Value) (xss : List (List Int)) (party : Int) (w : World) (hv : RdTape w v xss) :
    Calls Try.prog 32 #[v, .int .i64 party] w fun e w' => ∃ u b0, e = .returned u ∧ OwTapeResult w' u (tapeForR xss party) b0 ∧ (∀ y ∈ b0, w.heap.size ≤ y) ∧ Below w.heap.size w w' := by
  obtain ⟨p, c, rfl, hv⟩ := hv
  have B0 : Below w.heap.size w ((w.alloc (.cells #[.slice p xss.length c] 42)).alloc (.cells #[.int .i64 0, .slice none 0 0] 46)) := (by repeat (first | exact Below.refl _ _ | refine Below.drew ?_ | refine below_drewN ?_ _ | refine Below.setCell ?_ (by first | omega | (simp; done) | (simp; omega)) _ | refine Below.alloc ?_ (by first | omega | (simp; done) | (simp; omega)) _))
  have X0 := (Blk.new w 42 #[.slice p xss.length c]).alloc (.cells #[.int .i64 0, .slice none 0 0] 46)
  have Y0 : Blk ((w.alloc (.cells #[.slice p xss.length c] 42)).alloc (.cells #[.int .i64 0, .slice none 0 0] 46)) (w.heap.size + 1) 46 #[.int .i64 0, .slice none 0 0] := by simpa using Blk.new (w.alloc (.cells #[.slice p xss.length c] 42)) 46 #[.int .i64 0, .slice none 0 0]
  have K := fun w h => impl_TapeFault (.slice p xss.length c) xss w h
  by_cases h0 : tapeC xss = 0
  · rw [h0] at K
    by_cases hp : 0 ≤ party ∧ party ≤ 3
    · rw [tapeForR_in h0 hp]
      obtain ⟨l, rfl⟩ := Int.eq_ofNat_of_zero_le hp.1
      rw [show ((l : Int)).toNat = l from rfl]
      have h4 := tapeC_four h0
      have HR : Hid (∀ j, (xss.getD j []).length ≤ 900) := fun j => (rowC_zero (tapeC_row h0 j)).1
      have HL : Hid (xss.length = 4) := h4
      rw [h4] at hv K X0 B0 Y0 ⊢
      clear h0 h4
      have hmk : ∀ w, (Instr.makeSlice 40 (.int .i64 4) (.int .i64 4)).run Try.prog w = .ok (.slice (some ⟨w.heap.size, 0, none⟩) 4 4) (w.alloc (.cells #[.slice none 0 0, .slice none 0 0, .slice none 0 0, .slice none 0 0] 33)) := fun _ => by kernel_rfl
      go_enter Try.func32, Try.ntmps32
      go_wp2_with fail
      refine (K _ (hv.below B0)).mono ?_
      rintro e w1 ⟨rfl, hb1⟩
      replace X0 := X0.keep hb1
      replace Y0 := Y0.keep hb1
      replace B0 : Below w.heap.size w w1 := B0.trans (hb1.mono B0.size)
      go_wp2_with fail
      refine (impl_isParty_yes _ _ hp).mono ?_
      rintro e w2 ⟨rfl, rfl⟩
      have xa := X0.at.1
      have xl := X0.lt
      have yl := Y0.lt
      go_wp2_with fail
      clear xa
      have hown1 : Own (w1.alloc (.cells #[.slice none 0 0, .slice none 0 0, .slice none 0 0, .slice none 0 0] 33)) 33 1 (.slice (some ⟨w1.heap.size, 0, none⟩) 4 4) 4 (([] : List Value) ++ List.replicate (4 - 0) (.slice none 0 0)) [w1.heap.size] := Own.made w1 33 1 _ 4 (by unfold maxLen; omega) rfl
      have B1 : Below w.heap.size w (w1.alloc (.cells #[.slice none 0 0, .slice none 0 0, .slice none 0 0, .slice none 0 0] 33)) := B0.alloc B0.size _
      replace Y0 := Y0.alloc (.cells #[.slice none 0 0, .slice none 0 0, .slice none 0 0, .slice none 0 0] 33)
      have gw := B0.size
      clear X0 B0 hb1 hmk
      generalize w1.heap.size = g at *
      go_loopw [7, 8, 23] (fun _ _ i wr => ∃ k : Nat, ∃ vs : List Value, ∃ bi : List (List Nat), k ≤ 4 ∧ i = .int .i64 k ∧ Own wr 33 1 (.slice (some ⟨g, 0, none⟩) 4 4) 4 (vs ++ List.replicate (4 - k) (.slice none 0 0)) [g] ∧ Rows wr vs ((xss.set l []).take k) bi ∧ (g :: bi.flatten).Nodup ∧ (∀ x ∈ bi.flatten, g < x) ∧ Below w.heap.size w wr ∧ Blk wr (w.heap.size + 1) 46 #[.int .i64 0, .slice none 0 0]) (fun _ _ i _ => 4 - (intOf i).toNat)
      case atStart => exact ⟨0, [], [], Nat.zero_le _, rfl, hown1, trivial, by simp, by simp, B1, Y0⟩
      case round =>
        obtain ⟨k, vs, bi, hk, rfl, hown, hrows, hnd, hgt, hbel, hy⟩ := hrel
        clear hown1 B1 Y0
        by_cases hlt : k < 4
        · have hvr : ReadsM wr (.slice p 4 c) xss := hv.below (hbel.mono (Nat.le_refl _))
          have hlane : ∃ b off q d, p = some ⟨b, off, none⟩ ∧ b < wr.heap.size ∧ wr.cell? ⟨b, off + k, none⟩ = some (.slice q (xss.getD k []).length d) ∧ Reads wr .i64 (.slice q (xss.getD k []).length d) (xss.getD k []) := by
            have : ReadsM wr (.slice p xss.length c) xss := by rw [HL.out]; exact hvr
            exact this.lane k (by rw [HL.out]; exact hlt)
          obtain ⟨b, off, q, d, rfl, hlt0, c1, r1⟩ := hlane
          have hvl : vs.length = k := by have := hrows.len.1; rw [this]; simp [HL.out]; omega
          have hi : (k : Int) < 4 := by omega
          have HT : Hid ((xss.set l []).take (k + 1) = (xss.set l []).take k ++ [if k = l then [] else xss.getD k []]) := by
            show _ = _
            rw [List.take_succ_eq_append_getElem (by simp [HL.out]; omega)]
            congr 2
            rw [List.getElem_set]
            by_cases e : l = k
            · rw [if_pos e, if_pos e.symm]
            · rw [if_neg e, if_neg (fun h => e h.symm)]; simp [HL.out, hlt]
          have hrl := HR.out k
          clear hvr
          have hgl : g < wr.heap.size := Own.lt hown g (by simp)
          by_cases e : k = l
          · subst e
            have hne : ((k : Int) != (k : Int)) = false := by simp
            have hRn : Rows wr (vs ++ [.slice none 0 0]) ((xss.set k []).take (k + 1)) (bi ++ [[]]) := by
              rw [HT.out, if_pos rfl]
              exact Rows.snoc hrows (Ints.nil _)
            have hOn : Own wr 33 1 (.slice (some ⟨g, 0, none⟩) 4 4) 4 ((vs ++ [.slice none 0 0]) ++ List.replicate (4 - (k + 1)) (.slice none 0 0)) [g] := by
              have e2 : (vs ++ [Value.slice none 0 0]) ++ List.replicate (4 - (k + 1)) (Value.slice none 0 0) = vs ++ List.replicate (4 - k) (.slice none 0 0) := by
                rw [show 4 - k = (4 - (k + 1)) + 1 by omega, List.replicate_succ, List.append_assoc]; rfl
              rw [e2]; exact hown
            clear hown hrows r1
            go_wp2
            go_roundw
            case rel => exact ⟨k + 1, _, _, by omega, by go_num, hOn, hRn, by simpa using hnd, by simpa using hgt, hbel, hy⟩
            case measure => simp [intOf]; omega
          · have hne : ((k : Int) != (l : Int)) = true := by simp; omega
            rw [if_neg e] at HT
            generalize xss.getD k [] = ys at *
            go_wp2_with fail
            refine (impl_copyOf _ ys _ r1 (by omega)).mono ?_
            rintro e3 w2 ⟨u, bs, rfl, hI, hf, hb2⟩
            obtain ⟨pu, cu, rfl⟩ := Ints.value hI
            have hown2 := Own.keep hown hb2
            have hrows2 := hrows.keep hb2
            obtain ⟨F1, F2, F3⟩ := Mat.fill hown2 hrows2 hI hlt hvl hnd (fun x hx hm => by have := hrows.lt x hx; have := hf x hm; omega) (fun hm => by have := hf g hm; omega) hI.nodup
            have c2 : ∃ u, w2.cell? ⟨g, k, none⟩ = some u := ⟨_, (Own.cell hown2 k (by omega)).trans (List.getElem?_eq_getElem (by simp; omega))⟩
            obtain ⟨u2, c2⟩ := c2
            have f2 : w2.frozen? ⟨g, k, none⟩ = false := Own.frozen hown2 k
            have hb3 : Below w.heap.size w (w2.setCell ⟨g, k, none⟩ (.slice pu ys.length cu)) := (hbel.trans (hb2.mono hbel.size)).setCell gw _
            have hy3 := (hy.keep hb2).setOther ⟨g, k, none⟩ (.slice pu ys.length cu) (by simp; omega)
            have F4 : ∀ x ∈ (bi ++ [bs]).flatten, g < x := by
              intro x hx
              simp only [List.flatten_append, List.flatten_cons, List.flatten_nil, List.append_nil, List.mem_append] at hx
              rcases hx with hx | hx
              · exact hgt x hx
              · have := hf x hx; omega
            rw [← HT.out] at F2
            clear hown hown2 hrows hrows2 hI hf hbel hb2 hnd hgt r1 hy
            go_wp2
            go_roundw
            case rel => exact ⟨k + 1, _, _, by omega, by go_num, F1, F2, F3, F4, hb3, hy3⟩
            case measure => simp [intOf]; omega
        · obtain rfl : k = 4 := by omega
          have ht : (xss.set l []).take 4 = xss.set l [] := List.take_of_length_le (by simp [HL.out])
          rw [ht] at hrows
          have hM : Mat wr (.slice (some ⟨g, 0, none⟩) 4 4) (xss.set l []) (g :: bi.flatten) := ⟨vs, [g], bi, by simpa [HL.out] using hown, hrows, rfl, hnd⟩
          have ya := hy.at.1
          have yb := hy.at.2
          clear hown hrows
          go_wp2
          have OO : ∀ W, Off [w.heap.size + 1] wr W → (∃ u b0, Ending.returned (.agg #[.int .i64 0, .slice (some ⟨g, 0, none⟩) 4 4]) = .returned u ∧ OwTapeResult W u ⟨0, xss.set l []⟩ b0 ∧ (∀ y ∈ b0, w.heap.size ≤ y) ∧ Below w.heap.size w W) := fun W OO => ⟨_, g :: bi.flatten, rfl, ⟨some ⟨g, 0, none⟩, 4, by simp [HL.out], by simpa [HL.out] using hM.off OO (fun x hx hm => by simp at hm; rcases List.mem_cons.1 hx with h | h; omega; have := hgt x h; omega)⟩, fun x hx => by rcases List.mem_cons.1 hx with h | h; omega; have := hgt x h; omega, hbel.trans (OO.toBelow hbel.size (by simp))⟩
          exact bodyPost_ret (v := .agg #[.int .i64 0, .slice (some ⟨g, 0, none⟩) 4 4]) (by simp [results, Try.results32, go_sem, ya]) rfl (OO _ (by repeat (first | exact Off.refl _ _ | refine Off.setCell ?_ _ _ (by simp))))
    · rw [tapeForR_out h0 hp]
      clear h0
      go_enter Try.func32, Try.ntmps32
      go_wp2_with fail
      refine (K _ (hv.below B0)).mono ?_
      rintro e w1 ⟨rfl, hb1⟩
      replace Y0 := Y0.keep hb1
      replace B0 : Below w.heap.size w w1 := B0.trans (hb1.mono B0.size)
      have ya := Y0.at.1
      have yb := Y0.at.2
      go_wp2_with fail
      refine (impl_isParty_no _ _ hp).mono ?_
      rintro e w2 ⟨rfl, rfl⟩
      go_wp2
      exact bodyPost_ret (v := .agg #[.int .i64 3, .slice none 0 0]) (by simp [results, Try.results32, go_sem, ya]) rfl ⟨_, [], rfl, ⟨none, 0, rfl, Mat.nil _⟩, by simp, (by have zz0 := (B0).size; (try simp at zz0); repeat (first | exact Below.refl _ _ | refine Below.drew ?_ | refine below_drewN ?_ _ | refine Below.setCell ?_ (by first | omega | (simp; done) | (simp; omega)) _ | refine Below.alloc ?_ (by first | omega | (simp; done) | (simp; omega)) _ | refine bcall ?_ B0 (by first | omega | (simp; done) | (simp; omega))))⟩
  · rw [tapeForR_fault _ h0]
    have hne : (tapeC xss == 0) = false := by simpa using h0
    clear h0
    generalize tapeC xss = r at *
    go_enter Try.func32, Try.ntmps32
    go_wp2_with fail
    refine (K _ (hv.below B0)).mono ?_
    rintro e w1 ⟨rfl, hb1⟩
    replace Y0 := Y0.keep hb1
    replace B0 : Below w.heap.size w w1 := B0.trans (hb1.mono B0.size)
    have ya := Y0.at.1
    have yb := Y0.at.2
    go_wp2
    exact bodyPost_ret (v := .agg #[.int .i64 r, .slice none 0 0]) (by simp [results, Try.results32, go_sem, ya]) rfl ⟨_, [], rfl, ⟨none, 0, rfl, Mat.nil _⟩, by simp, (by have zz0 := (B0).size; (try simp at zz0); repeat (first | exact Below.refl _ _ | refine Below.drew ?_ | refine below_drewN ?_ _ | refine Below.setCell ?_ (by first | omega | (simp; done) | (simp; omega)) _ | refine Below.alloc ?_ (by first | omega | (simp; done) | (simp; omega)) _ | refine bcall ?_ B0 (by first | omega | (simp; done) | (simp; omega))))⟩
end Go.Proofs.Ytadppilldijijaa
