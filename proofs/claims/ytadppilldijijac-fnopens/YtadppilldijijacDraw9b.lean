/-
  Contracts of what the laws draw for chapter 6: parts.
-/
import Derived.Test.YtadppilldijijacDraw9
namespace Go.Proofs.Ytadppilldijijac
open Go.ChangeShapes Go.WideShapes Go.ChangeAt Go.RowKit
set_option linter.unusedVariables false
theorem Off.past2 {bs cs : List Nat} {a b c : World} (h : Off bs a b) (k : Off cs b c) (hc : ∀ z ∈ cs, z ∈ bs ∨ a.heap.size ≤ z) : Off bs a c :=
  ⟨k.os.trans h.os, k.tape.trans h.tape, k.output.trans h.output, Nat.le_trans h.size k.size, fun i hi hn => (k.block i (Nat.lt_of_lt_of_le hi h.size) (fun hm => by rcases hc i hm with h1 | h1; (exact hn h1); omega)).trans (h.block i hi hn)⟩
set_option maxHeartbeats 4000000 in
set_option maxRecDepth 100000 in
theorem spec_DrawPartFrom (a : Option Addr) (cap : Nat) (zs : List Int) (w : World) (hr : Reads w .u8 (.slice a zs.length cap) zs) (hl : zs.length ≤ 1048576) (hb : ∀ i, 0 ≤ zs.getD i 0 ∧ zs.getD i 0 ≤ 255) :
    Calls Try.prog 19 #[.slice a zs.length cap] w fun e w' => ∃ (u : Value) (x : MMirror) (part who by' : Int), e = .returned (.tuple #[u, .int .i64 part, .int .i64 who, .int .i64 by']) ∧ (∀ W cs, Off cs w' W → (∀ z ∈ cs, z < w.heap.size) → RdMirror W u x) ∧ Below w.heap.size w w' := by
  have Y0 := Blk.new w 37 #[.int .i64 0, .slice none 0 0]
  have B0 : Below w.heap.size w (w.alloc (.cells #[.int .i64 0, .slice none 0 0] 37)) := (by repeat (first | exact Below.refl _ _ | refine Below.drew ?_ | refine below_drewN ?_ _ | refine Below.setCell ?_ (by first | omega | (simp; done) | (simp; omega)) _ | refine Below.alloc ?_ (by first | omega | (simp; done) | (simp; omega)) _))
  have hr0 := hr.below B0
  clear hr
  go_enter Try.func19, Try.ntmps19
  go_wp2_with fail
  refine (spec_DrawOpenMirror a cap zs _ hr0 hl hb).mono ?_
  rintro e w1 ⟨u, x, who, by', rfl, hRS, hb1⟩
  obtain ⟨p, c, hu, -⟩ := hRS w1 [] (Off.refl _ _) (fun z hz => by cases hz)
  subst hu
  have Y1 := Y0.keep hb1
  have hr1 := hr0.below hb1
  have B1 := B0.trans (hb1.mono B0.size)
  have hy1 : w.heap.size < (w.alloc (.cells #[.int .i64 0, .slice none 0 0] 37)).heap.size := Y0.lt
  generalize x.xQ = Q at *
  generalize x.xViews.length = n at *
  have HRS : Hid (∀ W cs, Off cs w1 W → (∀ z ∈ cs, z ≤ w.heap.size) → RdMirror W (.agg #[.int .i64 Q, .slice p n c]) x) := fun W cs o hc => hRS W cs o (fun z hz => by have := hc z hz; omega)
  clear hRS Y0 B0 hr0 hb1 hy1
  have M1 := Blk.new w1 37 #[.int .i64 Q, .slice p n c]
  have hb2 : Below w1.heap.size w1 (w1.alloc (.cells #[.int .i64 Q, .slice p n c] 37)) := (Below.refl _ _).alloc (Nat.le_refl _) _
  have hw1 : w.heap.size < w1.heap.size := Y1.lt
  replace Y1 := Y1.keep hb2
  replace hr1 := hr1.below hb2
  replace B1 := B1.trans (hb2.mono B1.size)
  have O2 : Off [] w1 (w1.alloc (.cells #[.int .i64 Q, .slice p n c] 37)) := Off.ofBelow hb2
  go_wp2_with fail
  refine (spec_l1Later a cap zs 3 _ hr1 hl hb (by omega)).mono ?_
  rintro e w3 ⟨rfl, s3, hb3⟩
  have Y3 := Y1.keep hb3
  have M3 := M1.keep hb3
  have B3 := B1.trans (hb3.mono B1.size)
  have O3 : Off [] w1 w3 := O2.trans (Off.ofBelow hb3)
  have hM : w1.heap.size < (w1.alloc (.cells #[.int .i64 Q, .slice p n c] 37)).heap.size := M1.lt
  generalize (w1.alloc (.cells #[.int .i64 Q, .slice p n c] 37)).heap.size = b at *
  generalize hbm : w1.heap.size = bM at *
  have HBM : Hid (w1.heap.size = bM) := hbm
  clear Y1 M1 B1 O2 hb2 hb3 hr1 hbm
  have ma := M3.at.1
  have KS : Hid (∀ V, Off [b, w.heap.size] w3 V → ∀ o, V.cell? ⟨bM, o, none⟩ = (#[.int .i64 Q, .slice p n c] : Array Value)[o]?) := fun V o => (M3.off o (by simp; omega)).at.1
  have o4 : Off [b, w.heap.size] w3 (w3).drew := (Off.refl _ _).drew
  have sd := s3.keep (Below.refl _ _).drew
  have zb4 := s3.blk.lt
  have yl4 := Y3.lt
  have Yd := Y3.drew
  go_wp2_with fail
  go_region_held3 (fun V => ∀ o, V.cell? ⟨bM, o, none⟩ = (#[.int .i64 Q, .slice p n c] : Array Value)[o]?) (first | exact KS.out _ o4 | exact KS.out _ (o4.alloc _) | exact KS.out _ o5 | exact KS.out _ ((o5.setCell _ _ (by simp)).setCell _ _ (by simp))) (first | (go_at_call 29; refine (spec_l1Pick b a cap zs _ _ [0, 1, 2, 3, 4] [(w3).heap.size] _ (by exact sd.alloc _) (by omega) (by exact Ints.lit (w3).drew _ [0, 1, 2, 3, 4] 5 rfl rfl (by omega)) (by simp) (by simp) (by simp; omega)).mono ?_; rintro e w5 ⟨part, rfl, hbut, s5, o5'⟩; have o5 := (o4.alloc _).trans (o5'.mono (fun y hy => by simp at hy ⊢; exact .inl hy)); have Y5 := (Yd.alloc _).off o5' (by simp; omega); have ya := Y5.at.1; have yb := Y5.at.2))
  have OO : ∀ V, Off [w.heap.size] w5 V → (∃ (u : Value) (x : MMirror) (part_1 who_1 by_1 : Int), Ending.returned (.tuple #[.agg #[.int .i64 Q, .slice p n c], .int .i64 part, .int .i64 who, .int .i64 by']) = .returned (.tuple #[u, .int .i64 part_1, .int .i64 who_1, .int .i64 by_1]) ∧ (∀ V' cs, Off cs V V' → (∀ z ∈ cs, z < w.heap.size) → RdMirror V' u x) ∧ Below w.heap.size w V) := fun V OO => ⟨_, x, part, who, by', rfl, fun V' cs o' hc => HRS.out V' (w.heap.size :: cs) ((((O3.mono (cs := w.heap.size :: cs) (fun y hy => by cases hy)).past2 ((o5.trans (OO.mono (fun y hy => by simp at hy ⊢; exact .inr hy)))) (fun z hz => by rw [HBM.out]; simp at hz; rcases hz with rfl | rfl; (exact .inr (by omega)); (exact .inl (by simp))))).trans (o'.mono (fun y hy => List.mem_cons_of_mem _ hy))) (fun z hz => by rcases List.mem_cons.1 hz with h | h; (omega); (have := hc z h; omega)), B3.trans ((o5.trans (OO.mono (fun y hy => by simp at hy ⊢; exact .inr hy))).toBelow B3.size (fun y hy => by simp at hy; omega))⟩
  clear s5 o5' Y5
  go_wp2
  exact bodyPost_ret (v := .tuple #[.agg #[.int .i64 Q, .slice p n c], .int .i64 part, .int .i64 who, .int .i64 by']) (by simp [results, Try.results19, go_sem, ya]) rfl (OO _ (((Off.refl _ _).setCell _ _ (by simp)).setCell _ _ (by simp)))

end Go.Proofs.Ytadppilldijijac
