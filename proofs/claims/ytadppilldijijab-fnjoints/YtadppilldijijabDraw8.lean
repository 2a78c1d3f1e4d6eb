/-
  Draws of chapter 4: what joint messages are tried at.
-/
import Derived.Test.YtadppilldijijabDraw6
namespace Go.Proofs.Ytadppilldijijab
open Go.ChangeShapes Go.WideShapes Go.ChangeAt Go.RowKit
set_option linter.unusedVariables false

theorem spec_l3Qn (b : Nat) (a : Option Addr) (cap : Nat) (zs : List Int) (k : Nat) (w : World) (hs : Src w b a cap zs k) (hk : k ≤ 1073741824) :
    Calls Try.prog 36 #[.pointer (some ⟨b, 0, none⟩)] w fun e w' => ∃ q : Int, e = .returned (.int .i64 q) ∧ (q = 2 ∨ q = 256) ∧ Src w' b a cap zs (k + 1) ∧ Off [b] w w' := by
  have hl := hs.blk.lt
  go_enter Try.func36, Try.ntmps36
  go_wp2_with fail
  refine (spec_l1Pick b a cap zs k _ [256, 256, 2] [w.heap.size] _ (hs.alloc _) hk (Ints.lit w _ _ 3 rfl rfl (by omega)) (by simp) (by simp) (by simp; omega)).mono ?_
  rintro e w2 ⟨q, rfl, hq, s2, o2⟩
  have HQ : Hid (q = 2 ∨ q = 256) := by simp at hq; show q = 2 ∨ q = 256; omega
  clear hq
  go_wp2
  go_ret
  exact ⟨q, rfl, HQ.out, s2, ((Off.refl _ _).alloc _).trans o2⟩
set_option maxHeartbeats 4000000 in
set_option maxRecDepth 100000 in
theorem spec_DrawSendJoint (a : Option Addr) (cap : Nat) (zs : List Int) (w : World) (hr : Reads w .u8 (.slice a zs.length cap) zs) (hl : zs.length ≤ 1048576) (hb : ∀ i, 0 ≤ zs.getD i 0 ∧ zs.getD i 0 ≤ 255) :
    Calls Try.prog 15 #[.slice a zs.length cap] w fun e w' => ∃ p0 c0 p1 c1 p2 c2, ∃ x : MNet, ∃ q fm ck tt aa bb : Int, e = .returned (.tuple #[.agg #[.slice p0 x.xTape.length c0, .slice p1 x.xUsed.length c1, .int .i64 x.xSent, .slice p2 x.xHeard.length c2, .int .i64 x.xCheat.xWho, .int .i64 x.xCheat.xAt, .int .i64 x.xCheat.xBy, .bool x.xCheat.xCry, .bool x.xQuarrel.xSome, .int .i64 x.xQuarrel.xFrom, .int .i64 x.xQuarrel.xCheck, .int .i64 x.xQuarrel.xTo, .int .i64 x.xQuarrel.xTold, .int .i64 x.xQuarrel.xHeard, .int .i64 x.xQuarrel.xOther, .int .i64 x.xQuarrel.xVowed], .int .i64 q, .int .i64 fm, .int .i64 ck, .int .i64 tt, .int .i64 aa, .int .i64 bb]) ∧ RdNet w' (.agg #[.slice p0 x.xTape.length c0, .slice p1 x.xUsed.length c1, .int .i64 x.xSent, .slice p2 x.xHeard.length c2, .int .i64 x.xCheat.xWho, .int .i64 x.xCheat.xAt, .int .i64 x.xCheat.xBy, .bool x.xCheat.xCry, .bool x.xQuarrel.xSome, .int .i64 x.xQuarrel.xFrom, .int .i64 x.xQuarrel.xCheck, .int .i64 x.xQuarrel.xTo, .int .i64 x.xQuarrel.xTold, .int .i64 x.xQuarrel.xHeard, .int .i64 x.xQuarrel.xOther, .int .i64 x.xQuarrel.xVowed]) x ∧ Fit x ∧ Below w.heap.size w w' := by
  have B0 : Below w.heap.size w (w.alloc (.cells #[.slice none 0 0, .slice none 0 0, .int .i64 0, .slice none 0 0, .int .i64 0, .int .i64 0, .int .i64 0, .bool false, .bool false, .int .i64 0, .int .i64 0, .int .i64 0, .int .i64 0, .int .i64 0, .int .i64 0, .int .i64 0] 46)) := (by repeat (first | exact Below.refl _ _ | refine Below.drew ?_ | refine below_drewN ?_ _ | refine Below.setCell ?_ (by first | omega | (simp; done) | (simp; omega)) _ | refine Below.alloc ?_ (by first | omega | (simp; done) | (simp; omega)) _))
  have Y0 := Blk.new w 46 #[.slice none 0 0, .slice none 0 0, .int .i64 0, .slice none 0 0, .int .i64 0, .int .i64 0, .int .i64 0, .bool false, .bool false, .int .i64 0, .int .i64 0, .int .i64 0, .int .i64 0, .int .i64 0, .int .i64 0, .int .i64 0]
  go_enter Try.func15, Try.ntmps15
  go_wp2_with fail
  refine (spec_l1Source a cap zs _ (hr.below B0) hl hb).mono ?_
  rintro e w1 ⟨rfl, s1, hb1⟩
  have hz : (w.alloc (.cells #[.slice none 0 0, .slice none 0 0, .int .i64 0, .slice none 0 0, .int .i64 0, .int .i64 0, .int .i64 0, .bool false, .bool false, .int .i64 0, .int .i64 0, .int .i64 0, .int .i64 0, .int .i64 0, .int .i64 0, .int .i64 0] 46)).heap.size = w.heap.size + 1 := by simp
  rw [hz] at s1 ⊢
  replace Y0 := Y0.keep hb1
  replace B0 : Below w.heap.size w w1 := B0.trans (hb1.mono B0.size)
  have l1 := s1.blk.lt
  clear hb1 hz
  go_wp2_with fail
  refine (spec_l4Bent _ a cap zs 0 _ s1 (by omega)).mono ?_
  rintro e w2 ⟨u, rfl, x, hR, hF, ⟨j, hj, s2⟩, o2⟩
  obtain ⟨p0, c0, p1, c1, p2, c2, rfl, -⟩ := hR w2 [] (Off.refl _ _) (by simp)
  have HR : Hid (∀ W cs, Off cs w2 W → (∀ z ∈ cs, z < w1.heap.size ∨ w2.heap.size ≤ z) → RdNet W (.agg #[.slice p0 x.xTape.length c0, .slice p1 x.xUsed.length c1, .int .i64 x.xSent, .slice p2 x.xHeard.length c2, .int .i64 x.xCheat.xWho, .int .i64 x.xCheat.xAt, .int .i64 x.xCheat.xBy, .bool x.xCheat.xCry, .bool x.xQuarrel.xSome, .int .i64 x.xQuarrel.xFrom, .int .i64 x.xQuarrel.xCheck, .int .i64 x.xQuarrel.xTo, .int .i64 x.xQuarrel.xTold, .int .i64 x.xQuarrel.xHeard, .int .i64 x.xQuarrel.xOther, .int .i64 x.xQuarrel.xVowed]) x) := fun W cs o h => hR W (cs.filter (fun z => z < w1.heap.size)) ⟨o.os, o.tape, o.output, o.size, fun i hi hn => o.block i hi (fun hm => by
      rcases h i hm with h' | h'
      · exact hn (List.mem_filter.2 ⟨hm, by simpa using h'⟩)
      · omega)⟩ (fun z hz => by have := (List.mem_filter.1 hz).2; simpa using this)
  have HF : Hid (Fit x) := hF
  have Y2 := Y0.off o2 (by simp)
  have z2 := o2.size
  have B2 : Below w.heap.size w w2 := B0.trans (o2.toBelow B0.size (by simp))
  clear hR hF Y0 B0 o2 s1
  have Zn := Blk.new w2 46 #[.slice none 0 0, .slice none 0 0, .int .i64 0, .slice none 0 0, .int .i64 0, .int .i64 0, .int .i64 0, .bool false, .bool false, .int .i64 0, .int .i64 0, .int .i64 0, .int .i64 0, .int .i64 0, .int .i64 0, .int .i64 0]
  go_wp2_with (refine wpList_store_blk rfl 46 _ _ rfl w2.heap.size (#[.slice p0 x.xTape.length c0, .slice p1 x.xUsed.length c1, .int .i64 x.xSent, .slice p2 x.xHeard.length c2, .int .i64 x.xCheat.xWho, .int .i64 x.xCheat.xAt, .int .i64 x.xCheat.xBy, .bool x.xCheat.xCry, .bool x.xQuarrel.xSome, .int .i64 x.xQuarrel.xFrom, .int .i64 x.xQuarrel.xCheck, .int .i64 x.xQuarrel.xTo, .int .i64 x.xQuarrel.xTold, .int .i64 x.xQuarrel.xHeard, .int .i64 x.xQuarrel.xOther, .int .i64 x.xQuarrel.xVowed]) rfl rfl Zn rfl (by kernel_rfl) (by kernel_rfl) ?_; intro w3 Z3 O3)
  have P3 : Off [w2.heap.size] w2 w3 := ((Off.refl _ _).alloc _).trans O3
  have Y3 := Y2.off P3 (by simp; omega)
  have B3 : Below w.heap.size w w3 := B2.trans (P3.toBelow B2.size (by simp; omega))
  have s3 := s2.off P3 (fun y hy => by simp at hy; omega)
  clear Y2 B2 s2 O3 Zn
  generalize hg : w2.heap.size = g at *
  have Q3 : Off [w.heap.size + 1, g] w2 w3 := P3.mono (by simp)
  clear P3
  go_wp2_with fail
  refine (spec_l3Qn _ a cap zs (0 + j) _ s3 (by omega)).mono ?_
  rintro e w4 ⟨q, rfl, hq, s4, o4⟩
  replace Y3 := Y3.off o4 (by simp)
  replace Z3 := Z3.off o4 (by simp; omega)
  replace B3 := B3.trans (o4.toBelow B3.size (by simp))
  replace Q3 := Q3.trans (o4.mono (by simp))
  clear o4 s3
  go_wp2_with fail
  refine (spec_l1Next _ a cap zs (0 + j + 1) 4 _ s4 (by omega) (by omega)).mono ?_
  rintro e w5 ⟨fm, rfl, hfm, s5, o5⟩
  replace Y3 := Y3.off o5 (by simp)
  replace Z3 := Z3.off o5 (by simp; omega)
  replace B3 := B3.trans (o5.toBelow B3.size (by simp))
  replace Q3 := Q3.trans (o5.mono (by simp))
  clear o5 s4
  have hfm := hfm.1 (by omega)
  go_wp2_with fail
  refine (spec_l1Next _ a cap zs (0 + j + 1 + 1) 2 _ s5 (by omega) (by omega)).mono ?_
  rintro e w6 ⟨r2, rfl, hr2, s6, o6⟩
  replace Y3 := Y3.off o6 (by simp)
  replace Z3 := Z3.off o6 (by simp; omega)
  replace B3 := B3.trans (o6.toBelow B3.size (by simp))
  replace Q3 := Q3.trans (o6.mono (by simp))
  clear o6 s5
  have hr2 := hr2.1 (by omega)
  go_wp2_with fail
  refine (spec_l1Next _ a cap zs (0 + j + 1 + 1 + 1) q _ s6 (by omega) (by omega)).mono ?_
  rintro e w7 ⟨aa, rfl, haa, s7, o7⟩
  replace Y3 := Y3.off o7 (by simp)
  replace Z3 := Z3.off o7 (by simp; omega)
  replace B3 := B3.trans (o7.toBelow B3.size (by simp))
  replace Q3 := Q3.trans (o7.mono (by simp))
  clear o7 s6
  go_wp2_with fail
  refine (spec_l1Next _ a cap zs (0 + j + 1 + 1 + 1 + 1) 10 _ s7 (by omega) (by omega)).mono ?_
  rintro e w8 ⟨rr, rfl, hrr, s8, o8⟩
  replace Y3 := Y3.off o8 (by simp)
  replace Z3 := Z3.off o8 (by simp; omega)
  replace B3 := B3.trans (o8.toBelow B3.size (by simp))
  replace Q3 := Q3.trans (o8.mono (by simp))
  clear o8 s7
  clear haa hrr
  generalize hck : (fm + 1 + r2) % 4 = ck
  generalize htt : (fm + 3) % 4 = tt
  clear hck htt
  by_cases h0 : rr = 0
  · have e0 : (rr == 0) = true := by simpa using h0
    clear h0
    go_wp2_with fail
    refine (spec_l1Next _ a cap zs (0 + j + 1 + 1 + 1 + 1 + 1) q _ s8 (by omega) (by omega)).mono ?_
    rintro e w9 ⟨bb, rfl, hbb, s9, o9⟩
    replace Y3 := Y3.off o9 (by simp)
    replace Z3 := Z3.off o9 (by simp; omega)
    replace B3 := B3.trans (o9.toBelow B3.size (by simp))
    replace Q3 := Q3.trans (o9.mono (by simp))
    clear o9 s8
    go_wp2_with (first | (refine wpList_load_blk rfl 46 _ rfl g rfl Z3 Try.underlying46 rfl (by kernel_rfl) ?_) | (refine wpList_store_blk rfl 46 _ _ rfl w.heap.size (#[.slice p0 x.xTape.length c0, .slice p1 x.xUsed.length c1, .int .i64 x.xSent, .slice p2 x.xHeard.length c2, .int .i64 x.xCheat.xWho, .int .i64 x.xCheat.xAt, .int .i64 x.xCheat.xBy, .bool x.xCheat.xCry, .bool x.xQuarrel.xSome, .int .i64 x.xQuarrel.xFrom, .int .i64 x.xQuarrel.xCheck, .int .i64 x.xQuarrel.xTo, .int .i64 x.xQuarrel.xTold, .int .i64 x.xQuarrel.xHeard, .int .i64 x.xQuarrel.xOther, .int .i64 x.xQuarrel.xVowed]) rfl rfl Y3 rfl (by kernel_rfl) (by kernel_rfl) ?_; intro w20 Y9 O9))
    have ya := Y9.at.1
    have B9 : Below w.heap.size w w20 := B3.trans (O9.toBelow B3.size (by simp))
    have R9 := HR.out w20 [w.heap.size + 1, g, w.heap.size] ((Q3.mono (by simp)).trans (O9.mono (by simp))) (by simp; omega)
    exact bodyPost_ret (v := .tuple #[.agg #[.slice p0 x.xTape.length c0, .slice p1 x.xUsed.length c1, .int .i64 x.xSent, .slice p2 x.xHeard.length c2, .int .i64 x.xCheat.xWho, .int .i64 x.xCheat.xAt, .int .i64 x.xCheat.xBy, .bool x.xCheat.xCry, .bool x.xQuarrel.xSome, .int .i64 x.xQuarrel.xFrom, .int .i64 x.xQuarrel.xCheck, .int .i64 x.xQuarrel.xTo, .int .i64 x.xQuarrel.xTold, .int .i64 x.xQuarrel.xHeard, .int .i64 x.xQuarrel.xOther, .int .i64 x.xQuarrel.xVowed], .int .i64 q, .int .i64 fm, .int .i64 ck, .int .i64 tt, .int .i64 aa, .int .i64 bb]) (by simp [results, Try.results15, go_sem, ya]) rfl ⟨p0, c0, p1, c1, p2, c2, x, q, fm, ck, tt, aa, bb, rfl, R9, HF.out, B9⟩
  · have e0 : (rr == 0) = false := by simpa using h0
    clear h0
    by_cases h1 : rr = 1
    · have e1 : (rr == 1) = true := by simpa using h1
      clear h1
      go_wp2_with (first | (refine wpList_load_blk rfl 46 _ rfl g rfl Z3 Try.underlying46 rfl (by kernel_rfl) ?_) | (refine wpList_store_blk rfl 46 _ _ rfl w.heap.size (#[.slice p0 x.xTape.length c0, .slice p1 x.xUsed.length c1, .int .i64 x.xSent, .slice p2 x.xHeard.length c2, .int .i64 x.xCheat.xWho, .int .i64 x.xCheat.xAt, .int .i64 x.xCheat.xBy, .bool x.xCheat.xCry, .bool x.xQuarrel.xSome, .int .i64 x.xQuarrel.xFrom, .int .i64 x.xQuarrel.xCheck, .int .i64 x.xQuarrel.xTo, .int .i64 x.xQuarrel.xTold, .int .i64 x.xQuarrel.xHeard, .int .i64 x.xQuarrel.xOther, .int .i64 x.xQuarrel.xVowed]) rfl rfl Y3 rfl (by kernel_rfl) (by kernel_rfl) ?_; intro w20 Y9 O9))
      have ya := Y9.at.1
      have B9 : Below w.heap.size w w20 := B3.trans (O9.toBelow B3.size (by simp))
      have R9 := HR.out w20 [w.heap.size + 1, g, w.heap.size] ((Q3.mono (by simp)).trans (O9.mono (by simp))) (by simp; omega)
      exact bodyPost_ret (v := .tuple #[.agg #[.slice p0 x.xTape.length c0, .slice p1 x.xUsed.length c1, .int .i64 x.xSent, .slice p2 x.xHeard.length c2, .int .i64 x.xCheat.xWho, .int .i64 x.xCheat.xAt, .int .i64 x.xCheat.xBy, .bool x.xCheat.xCry, .bool x.xQuarrel.xSome, .int .i64 x.xQuarrel.xFrom, .int .i64 x.xQuarrel.xCheck, .int .i64 x.xQuarrel.xTo, .int .i64 x.xQuarrel.xTold, .int .i64 x.xQuarrel.xHeard, .int .i64 x.xQuarrel.xOther, .int .i64 x.xQuarrel.xVowed], .int .i64 q, .int .i64 fm, .int .i64 fm, .int .i64 tt, .int .i64 aa, .int .i64 aa]) (by simp [results, Try.results15, go_sem, ya]) rfl ⟨p0, c0, p1, c1, p2, c2, x, q, fm, fm, tt, aa, aa, rfl, R9, HF.out, B9⟩
    · have e1 : (rr == 1) = false := by simpa using h1
      clear h1
      by_cases h2 : rr = 2
      · have e2 : (rr == 2) = true := by simpa using h2
        clear h2
        go_wp2_with (first | (refine wpList_load_blk rfl 46 _ rfl g rfl Z3 Try.underlying46 rfl (by kernel_rfl) ?_) | (refine wpList_store_blk rfl 46 _ _ rfl w.heap.size (#[.slice p0 x.xTape.length c0, .slice p1 x.xUsed.length c1, .int .i64 x.xSent, .slice p2 x.xHeard.length c2, .int .i64 x.xCheat.xWho, .int .i64 x.xCheat.xAt, .int .i64 x.xCheat.xBy, .bool x.xCheat.xCry, .bool x.xQuarrel.xSome, .int .i64 x.xQuarrel.xFrom, .int .i64 x.xQuarrel.xCheck, .int .i64 x.xQuarrel.xTo, .int .i64 x.xQuarrel.xTold, .int .i64 x.xQuarrel.xHeard, .int .i64 x.xQuarrel.xOther, .int .i64 x.xQuarrel.xVowed]) rfl rfl Y3 rfl (by kernel_rfl) (by kernel_rfl) ?_; intro w20 Y9 O9))
        have ya := Y9.at.1
        have B9 : Below w.heap.size w w20 := B3.trans (O9.toBelow B3.size (by simp))
        have R9 := HR.out w20 [w.heap.size + 1, g, w.heap.size] ((Q3.mono (by simp)).trans (O9.mono (by simp))) (by simp; omega)
        exact bodyPost_ret (v := .tuple #[.agg #[.slice p0 x.xTape.length c0, .slice p1 x.xUsed.length c1, .int .i64 x.xSent, .slice p2 x.xHeard.length c2, .int .i64 x.xCheat.xWho, .int .i64 x.xCheat.xAt, .int .i64 x.xCheat.xBy, .bool x.xCheat.xCry, .bool x.xQuarrel.xSome, .int .i64 x.xQuarrel.xFrom, .int .i64 x.xQuarrel.xCheck, .int .i64 x.xQuarrel.xTo, .int .i64 x.xQuarrel.xTold, .int .i64 x.xQuarrel.xHeard, .int .i64 x.xQuarrel.xOther, .int .i64 x.xQuarrel.xVowed], .int .i64 q, .int .i64 fm, .int .i64 ck, .int .i64 tt, .int .i64 256, .int .i64 aa]) (by simp [results, Try.results15, go_sem, ya]) rfl ⟨p0, c0, p1, c1, p2, c2, x, q, fm, ck, tt, 256, aa, rfl, R9, HF.out, B9⟩
      · have e2 : (rr == 2) = false := by simpa using h2
        clear h2
        go_wp2_with (first | (refine wpList_load_blk rfl 46 _ rfl g rfl Z3 Try.underlying46 rfl (by kernel_rfl) ?_) | (refine wpList_store_blk rfl 46 _ _ rfl w.heap.size (#[.slice p0 x.xTape.length c0, .slice p1 x.xUsed.length c1, .int .i64 x.xSent, .slice p2 x.xHeard.length c2, .int .i64 x.xCheat.xWho, .int .i64 x.xCheat.xAt, .int .i64 x.xCheat.xBy, .bool x.xCheat.xCry, .bool x.xQuarrel.xSome, .int .i64 x.xQuarrel.xFrom, .int .i64 x.xQuarrel.xCheck, .int .i64 x.xQuarrel.xTo, .int .i64 x.xQuarrel.xTold, .int .i64 x.xQuarrel.xHeard, .int .i64 x.xQuarrel.xOther, .int .i64 x.xQuarrel.xVowed]) rfl rfl Y3 rfl (by kernel_rfl) (by kernel_rfl) ?_; intro w20 Y9 O9))
        have ya := Y9.at.1
        have B9 : Below w.heap.size w w20 := B3.trans (O9.toBelow B3.size (by simp))
        have R9 := HR.out w20 [w.heap.size + 1, g, w.heap.size] ((Q3.mono (by simp)).trans (O9.mono (by simp))) (by simp; omega)
        exact bodyPost_ret (v := .tuple #[.agg #[.slice p0 x.xTape.length c0, .slice p1 x.xUsed.length c1, .int .i64 x.xSent, .slice p2 x.xHeard.length c2, .int .i64 x.xCheat.xWho, .int .i64 x.xCheat.xAt, .int .i64 x.xCheat.xBy, .bool x.xCheat.xCry, .bool x.xQuarrel.xSome, .int .i64 x.xQuarrel.xFrom, .int .i64 x.xQuarrel.xCheck, .int .i64 x.xQuarrel.xTo, .int .i64 x.xQuarrel.xTold, .int .i64 x.xQuarrel.xHeard, .int .i64 x.xQuarrel.xOther, .int .i64 x.xQuarrel.xVowed], .int .i64 q, .int .i64 fm, .int .i64 ck, .int .i64 tt, .int .i64 aa, .int .i64 aa]) (by simp [results, Try.results15, go_sem, ya]) rfl ⟨p0, c0, p1, c1, p2, c2, x, q, fm, ck, tt, aa, aa, rfl, R9, HF.out, B9⟩
end Go.Proofs.Ytadppilldijijab
