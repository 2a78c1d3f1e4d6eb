/-
  Products and two bits in the ring as shares, in the program.
-/
import Derived.Test.YtepobckhfodngaoGreatSh
import Derived.Deep.Cut
import Derived.Test.YtepobckhfodngaoGreatDotS
namespace Go.Proofs.YtepobckhfodngaoGreat
open Go.ChangeShapes Go.WideShapes Go.ChangeAt Go.RowKit
set_option linter.unusedVariables false

/-- a product of one term, sixteen numbers; and the net behind it -/
def prF (q : Int) (fs gs : List Int) (x : MNet) : List Int := dotS q [unflat fs] [unflat gs] 1 x
def prX (q : Int) (fs gs : List Int) (x : MNet) : MNet := dotX q [unflat fs] [unflat gs] 1 x
theorem prF_ok {q : Int} (hq : q = 2 ∨ q = 256) (fs gs : List Int) {m : Nat} {x : MNet} (hB : NetB m x) : NetB (m + 12) (prX q fs gs x) ∧ Ok16 q (prF q fs gs x) := dot_ok hq _ _ _ hB
def xrF (fs gs : List Int) (x : MNet) : List Int := subF 256 (addF 256 fs gs) (addF 256 (prF 256 fs gs x) (prF 256 fs gs x))
theorem nx_pt (f : Int → Int → Int) (q : Int) (xss yss : List (List Int)) (i j : Nat) (hi : i < 4) (hj : j < 4) : pt (opRows f q xss yss) i j = f (pt xss i j) (pt yss i j) % q := by
  have e : (opRows f q xss yss).getD i [] = (List.range 4).map fun (k : Nat) => f (pt xss i k) (pt yss i k) % q := by simp [opRows, hi]
  unfold pt
  rw [e]
  simp [hj, pt]
theorem opF_ok {q : Int} (hq : q = 2 ∨ q = 256) (f : Int → Int → Int) (xss yss : List (List Int)) : Ok16 q (opRows f q xss yss).flatten := by
  refine sh_ok16 (opRows_sq _ _ _ _) (fun i j => ?_)
  have h0 : (0 : Int) < q := by rcases hq with h | h <;> omega
  by_cases k : i < 4 ∧ j < 4
  · rw [nx_pt _ _ _ _ _ _ k.1 k.2]
    exact ⟨Int.emod_nonneg _ (by omega), Int.emod_lt_of_pos _ h0⟩
  · have : pt (opRows f q xss yss) i j = 0 := by
      have hs := opRows_sq f q xss yss
      generalize opRows f q xss yss = zss at *
      unfold pt
      by_cases hi : i < 4
      · have hl := hs.2 i hi
        generalize zss.getD i [] = r at hl ⊢
        rw [List.getD_eq_getElem?_getD, List.getElem?_eq_none (by omega)]
        rfl
      · have : zss.getD i [] = [] := by
          rw [List.getD_eq_getElem?_getD, List.getElem?_eq_none (by rw [hs.1]; omega)]
          rfl
        rw [this]
        rfl
    rw [this]
    omega
theorem addF_ok16 {q : Int} (hq : q = 2 ∨ q = 256) (fs gs : List Int) : Ok16 q (addF q fs gs) := opF_ok hq _ _ _
theorem subF_ok16 {q : Int} (hq : q = 2 ∨ q = 256) (fs gs : List Int) : Ok16 q (subF q fs gs) := opF_ok hq _ _ _
theorem xrF_ok (fs gs : List Int) (x : MNet) : Ok16 256 (xrF fs gs x) := subF_ok16 (.inr rfl) _ _
theorem BdT_one {q : Int} {fs : List Int} (h : Ok16 q fs) : BdT q [unflat fs] := by
  intro t i j
  cases t with
  | zero => exact unflat_bdS h i j
  | succ t =>
    have := (h.2 0)
    have e : pt (([unflat fs] : List (List (List Int))).getD (t + 1) []) i j = 0 := by simp [pt]
    rw [e]
    omega
theorem vw_fold {bf : List Int} (h : bf.length = 16) : Array.foldl (fun (cs : Array Value) (x : Value × Nat) => cs.setIfInBounds x.snd x.fst) #[.int .i64 0, .int .i64 0, .int .i64 0, .int .i64 0, .int .i64 0, .int .i64 0, .int .i64 0, .int .i64 0, .int .i64 0, .int .i64 0, .int .i64 0, .int .i64 0, .int .i64 0, .int .i64 0, .int .i64 0, .int .i64 0] (cells1 bf).zipIdx 0 16 = cells1 bf := by
  obtain ⟨a0, a1, a2, a3, b0, b1, b2, b3, c0, c1, c2, c3, d0, d1, d2, d3, rfl⟩ := lit16 h
  kernel_rfl
set_option maxHeartbeats 4000000 in
set_option maxRecDepth 100000 in
theorem impl_product (q q2 : Int) (fs gs : List Int) (b0 : Nat) (x : MNet) (bs : List Nat) (m : Nat) (w : World) (N : NetIn w b0 x bs) (B : NetB m x) (hm : m ≤ 199970) (hq : q = 2 ∨ q = 256) (hf : Ok16 q fs) (hg : Ok16 q gs) :
    Calls Tryz.prog 97 #[.pointer (some ⟨b0, 0, none⟩), .agg (cells1 (q :: fs)), .agg (cells1 (q2 :: gs))] w fun e w' => e = .returned (.agg (cells1 (q :: prF q fs gs x))) ∧ ∃ cs, NetIn w' b0 (prX q fs gs x) cs ∧ (∀ y ∈ cs, y ∈ bs ∨ w.heap.size ≤ y) ∧ Off (b0 :: bs) w w' := by
  have KD := fun gx cx gy cy W hN hX hY n1 n2 => impl_dot q gx cx gy cy 1 [unflat fs] [unflat gs] b0 x bs m W hN B hm hX hY hq (by omega) (BdT_one hf) (BdT_one hg) n1 n2
  have HF : Hid (fs.length = 16) := hf.1
  have HG : Hid (gs.length = 16) := hg.1
  have HPL : Hid ((q :: prF q fs gs x).length = 17) := by show _ = _; rw [List.length_cons, (prF_ok hq fs gs B).2.1]
  change ∀ gx cx gy cy W, NetIn W b0 x bs → RdVs W gx 1 [unflat fs] → RdVs W gy 1 [unflat gs] → gx ∉ b0 :: bs → gy ∉ b0 :: bs → Calls _ _ _ W (fun e w' => e = .returned (.agg (cells1 (q :: prF q fs gs x))) ∧ ∃ cs, NetIn w' b0 (prX q fs gs x) cs ∧ _) at KD
  generalize prF q fs gs x = ps at *
  generalize prX q fs gs x = x2 at *
  clear hf hg hq
  have X3 : Blk (((w.alloc (.cells (cells1 (q :: fs)) 87)).alloc (.cells (cells1 (q2 :: gs)) 87)).alloc (.cells #[.int .i64 0, .int .i64 0, .int .i64 0, .int .i64 0, .int .i64 0, .int .i64 0, .int .i64 0, .int .i64 0, .int .i64 0, .int .i64 0, .int .i64 0, .int .i64 0, .int .i64 0, .int .i64 0, .int .i64 0, .int .i64 0, .int .i64 0] 87)) w.heap.size 87 (cells1 (q :: fs)) := ((Blk.new w _ _).alloc _).alloc _
  have Y3 : Blk (((w.alloc (.cells (cells1 (q :: fs)) 87)).alloc (.cells (cells1 (q2 :: gs)) 87)).alloc (.cells #[.int .i64 0, .int .i64 0, .int .i64 0, .int .i64 0, .int .i64 0, .int .i64 0, .int .i64 0, .int .i64 0, .int .i64 0, .int .i64 0, .int .i64 0, .int .i64 0, .int .i64 0, .int .i64 0, .int .i64 0, .int .i64 0, .int .i64 0] 87)) (w.heap.size + 1) 87 (cells1 (q2 :: gs)) := by simpa using (Blk.new (w.alloc (.cells (cells1 (q :: fs)) 87)) 87 (cells1 (q2 :: gs))).alloc (.cells #[.int .i64 0, .int .i64 0, .int .i64 0, .int .i64 0, .int .i64 0, .int .i64 0, .int .i64 0, .int .i64 0, .int .i64 0, .int .i64 0, .int .i64 0, .int .i64 0, .int .i64 0, .int .i64 0, .int .i64 0, .int .i64 0, .int .i64 0] 87)
  have R3 : Blk (((w.alloc (.cells (cells1 (q :: fs)) 87)).alloc (.cells (cells1 (q2 :: gs)) 87)).alloc (.cells #[.int .i64 0, .int .i64 0, .int .i64 0, .int .i64 0, .int .i64 0, .int .i64 0, .int .i64 0, .int .i64 0, .int .i64 0, .int .i64 0, .int .i64 0, .int .i64 0, .int .i64 0, .int .i64 0, .int .i64 0, .int .i64 0, .int .i64 0] 87)) (w.heap.size + 1 + 1) 87 #[.int .i64 0, .int .i64 0, .int .i64 0, .int .i64 0, .int .i64 0, .int .i64 0, .int .i64 0, .int .i64 0, .int .i64 0, .int .i64 0, .int .i64 0, .int .i64 0, .int .i64 0, .int .i64 0, .int .i64 0, .int .i64 0, .int .i64 0] := by simpa using Blk.new ((w.alloc (.cells (cells1 (q :: fs)) 87)).alloc (.cells (cells1 (q2 :: gs)) 87)) 87 #[.int .i64 0, .int .i64 0, .int .i64 0, .int .i64 0, .int .i64 0, .int .i64 0, .int .i64 0, .int .i64 0, .int .i64 0, .int .i64 0, .int .i64 0, .int .i64 0, .int .i64 0, .int .i64 0, .int .i64 0, .int .i64 0, .int .i64 0]
  have B3 : Below w.heap.size w (((w.alloc (.cells (cells1 (q :: fs)) 87)).alloc (.cells (cells1 (q2 :: gs)) 87)).alloc (.cells #[.int .i64 0, .int .i64 0, .int .i64 0, .int .i64 0, .int .i64 0, .int .i64 0, .int .i64 0, .int .i64 0, .int .i64 0, .int .i64 0, .int .i64 0, .int .i64 0, .int .i64 0, .int .i64 0, .int .i64 0, .int .i64 0, .int .i64 0] 87)) := (by repeat (first | exact Below.refl _ _ | refine Below.drew ?_ | refine below_drewN ?_ _ | refine Below.setCell ?_ (by first | omega | (simp; done) | (simp; omega)) _ | refine Below.alloc ?_ (by first | omega | (simp; done) | (simp; omega)) _))
  have z3 : (((w.alloc (.cells (cells1 (q :: fs)) 87)).alloc (.cells (cells1 (q2 :: gs)) 87)).alloc (.cells #[.int .i64 0, .int .i64 0, .int .i64 0, .int .i64 0, .int .i64 0, .int .i64 0, .int .i64 0, .int .i64 0, .int .i64 0, .int .i64 0, .int .i64 0, .int .i64 0, .int .i64 0, .int .i64 0, .int .i64 0, .int .i64 0, .int .i64 0] 87)).heap.size = w.heap.size + 3 := by simp
  have HRG : Hid (∀ (V : World) (b : Nat) (z : Int) (l : List Int), Blk V b 87 (cells1 (z :: l)) → V.rangeAt b 1 (cells1 l).toList) := fun V b z l hB => fun j v hv => by rw [hB.at.1, ← hv]; simp [cells1, Nat.add_comm 1 j]
  have hzf : (cells1 fs).size = 16 := by rw [cells1_size, HF.out]
  have hzg : (cells1 gs).size = 16 := by rw [cells1_size, HG.out]
  have cq := X3.one 0 (by simp)
  simp only [List.getD_cons_zero] at cq
  have N3 := N.keep B3
  have lN := N.lt
  have lNs := N.lts
  go_enter Tryz.func97, Tryz.ntmps97
  go_upto_region 1 with fail
  generalize (((w.alloc (.cells (cells1 (q :: fs)) 87)).alloc (.cells (cells1 (q2 :: gs)) 87)).alloc (.cells #[.int .i64 0, .int .i64 0, .int .i64 0, .int .i64 0, .int .i64 0, .int .i64 0, .int .i64 0, .int .i64 0, .int .i64 0, .int .i64 0, .int .i64 0, .int .i64 0, .int .i64 0, .int .i64 0, .int .i64 0, .int .i64 0, .int .i64 0] 87)) = w3 at *
  have VX := Blk.new w3 85 (cells1 fs)
  have VY := Blk.new (w3.alloc (.cells (cells1 fs) 85)) 85 (cells1 gs)
  have Zn := Blk.new ((w3.alloc (.cells (cells1 fs) 85)).alloc (.cells (cells1 gs) 85)) 163 #[.int .i64 0, .slice none 0 0, .slice none 0 0]
  simp only [World.size_alloc, z3] at VX VY Zn
  go_wp2_with (first | (refine wpList_load_mid rfl 85 _ rfl w.heap.size 1 rfl (cells1 fs).toList _ (HRG.out _ _ _ _ X3) Tryz.underlying85 rfl (by rw [Array.length_toList, cells1_size, HF.out]; kernel_rfl) ?_) | (rw [vw_fold HF.out]; refine wpList_load_mid rfl 85 _ rfl (w.heap.size + 1) 1 rfl (cells1 gs).toList _ (HRG.out _ _ _ _ (Y3.alloc _)) Tryz.underlying85 rfl (by rw [Array.length_toList, cells1_size, HG.out]; kernel_rfl) ?_) | (rw [vw_fold HG.out]; refine wpList_store_blk rfl 163 _ _ rfl (w.heap.size + 5) #[.int .i64 q, .slice (some ⟨w.heap.size + 3, 0, none⟩) 1 1, .slice (some ⟨w.heap.size + 4, 0, none⟩) 1 1] rfl rfl Zn rfl (by kernel_rfl) (by kernel_rfl) ?_; intro w4 V4 O4) | (refine wpList_load_blk rfl 163 _ rfl (w.heap.size + 5) rfl V4 Tryz.underlying163 rfl (by kernel_rfl) ?_))
  have b3s := B3.size
  have bA : Below w3.heap.size w3 ((((w3.alloc (.cells (cells1 fs) 85)).alloc (.cells (cells1 gs) 85)).alloc (.cells #[.int .i64 0, .slice none 0 0, .slice none 0 0] 163))) := (((Below.refl _ _).alloc (Nat.le_refl _) _).alloc ((Below.refl _ _).alloc (Nat.le_refl _) _).size _).alloc (((Below.refl _ _).alloc (Nat.le_refl _) _).alloc ((Below.refl _ _).alloc (Nat.le_refl _) _).size _).size _
  have b4 : Below w3.heap.size w3 w4 := bA.trans (O4.toBelow bA.size (by simp; omega))
  have hX := ((VX.alloc _).alloc _).off O4 (by simp)
  have hY := (VY.alloc _).off O4 (by simp)
  have R4 := R3.keep b4
  have N4 := N3.keep b4
  have B4 := B3.trans (b4.mono B3.size)
  have QX : RdVs w4 (w.heap.size + 3) 1 [unflat fs] := ⟨hX.lt, fun t ht => by obtain rfl : t = 0 := (by omega); exact ⟨unflat_sq fs, by show w4.rangeAt _ (0 * 16) (cells1 (unflat fs).flatten).toList; rw [unflat_flat HF.out]; simpa using hX.range⟩⟩
  have QY : RdVs w4 (w.heap.size + 4) 1 [unflat gs] := ⟨hY.lt, fun t ht => by obtain rfl : t = 0 := (by omega); exact ⟨unflat_sq gs, by show w4.rangeAt _ (0 * 16) (cells1 (unflat gs).flatten).toList; rw [unflat_flat HG.out]; simpa using hY.range⟩⟩
  have nx : w.heap.size + 3 ∉ b0 :: bs := fun hm => by rcases List.mem_cons.1 hm with h | h; omega; (have := lNs _ h; omega)
  have ny : w.heap.size + 4 ∉ b0 :: bs := fun hm => by rcases List.mem_cons.1 hm with h | h; omega; (have := lNs _ h; omega)
  have K := KD _ 1 _ 1 _ N4 QX QY nx ny
  clear KD QX QY nx ny hX hY VX VY Zn X3 Y3 R3 B3 N3 cq bA O4 HF HG N4 HRG
  refine K.mono ?_
  rintro e w5 ⟨rfl, cs, N5, hcs, O5⟩
  have R5 := R4.off O5 (fun hm => by rcases List.mem_cons.1 hm with h | h; omega; (have := lNs _ h; omega))
  have P5 : Off (b0 :: bs) w w5 := (Off.ofBelow B4).trans O5
  have l5 := N5.lts
  have ln5 := N5.lt
  have z4 := b4.size
  clear K R4 B4 b4
  have hn : w.heap.size + 1 + 1 ∉ cs := fun h => by rcases hcs _ h with h | h; (have := lNs _ h; omega); omega
  go_wp2_with (refine wpList_store_blk rfl 87 _ _ rfl (w.heap.size + 1 + 1) (cells1 (q :: ps)) rfl rfl R5 (by rw [cells1_size, HPL.out]; rfl) (by rw [cells1_size, HPL.out]; kernel_rfl) (cells1_one _) ?_; intro w6 R6 O6)
  exact bodyPost_ret (v := .agg (cells1 (q :: ps))) (results_blk Tryz.results97 rfl R6 Tryz.underlying87 rfl (by rw [cells1_size, HPL.out]; kernel_rfl)) rfl ⟨rfl, cs, N5.off O6 (by simp; omega) (fun y hy hm => by simp at hm; exact hn (hm ▸ hy)), fun y hy => by rcases hcs y hy with h | h; (exact .inl h); (right; omega), P5.mix O6 (fun y hy => by simp at hy; right; omega)⟩
set_option maxHeartbeats 4000000 in
set_option maxRecDepth 100000 in
theorem impl_xor (q2 : Int) (fs gs : List Int) (b0 : Nat) (x : MNet) (bs : List Nat) (m : Nat) (w : World) (N : NetIn w b0 x bs) (B : NetB m x) (hm : m ≤ 199970) (hf : Ok16 256 fs) (hg : Ok16 256 gs) :
    Calls Tryz.prog 94 #[.pointer (some ⟨b0, 0, none⟩), .agg (cells1 (256 :: fs)), .agg (cells1 (q2 :: gs))] w fun e w' => e = .returned (.agg (cells1 (256 :: xrF fs gs x))) ∧ ∃ cs, NetIn w' b0 (prX 256 fs gs x) cs ∧ (∀ y ∈ cs, y ∈ bs ∨ w.heap.size ≤ y) ∧ Off (b0 :: bs) w w' := by
  have KP := fun W hN => impl_product 256 q2 fs gs b0 x bs m W hN B hm (.inr rfl) hf hg
  have hp := (prF_ok (.inr rfl) fs gs B).2
  have KA := fun W => impl_share_plus 256 q2 fs gs W (.inr rfl) hf hg
  have KB := fun W => impl_share_plus 256 256 (prF 256 fs gs x) (prF 256 fs gs x) W (.inr rfl) hp hp
  have KC := fun W => impl_share_minus 256 256 (addF 256 fs gs) (addF 256 (prF 256 fs gs x) (prF 256 fs gs x)) W (.inr rfl) (addF_ok16 (.inr rfl) _ _) (addF_ok16 (.inr rfl) _ _)
  have HF : Hid ((256 :: fs).length = 17) := by show _ = _; rw [List.length_cons, hf.1]
  have HG : Hid ((q2 :: gs).length = 17) := by show _ = _; rw [List.length_cons, hg.1]
  have HPL : Hid ((256 :: prF 256 fs gs x).length = 17) := by show _ = _; rw [List.length_cons, hp.1]
  have HXL : Hid ((256 :: xrF fs gs x).length = 17) := by show _ = _; rw [List.length_cons, (xrF_ok fs gs x).1]
  change ∀ W, Calls _ _ _ W (fun e w' => e = .returned (.agg (cells1 (256 :: xrF fs gs x))) ∧ _) at KC
  generalize xrF fs gs x = rs at *
  generalize prF 256 fs gs x = ps at *
  generalize prX 256 fs gs x = x2 at *
  generalize Value.agg (cells1 (256 :: addF 256 fs gs)) = va at *
  generalize Value.agg (cells1 (256 :: addF 256 ps ps)) = vb at *
  clear hf hg hp
  generalize (256 :: fs) = F at *
  generalize (q2 :: gs) = G at *
  generalize (256 :: ps) = P at *
  generalize (256 :: rs) = R at *
  have X3 : Blk (((w.alloc (.cells (cells1 F) 87)).alloc (.cells (cells1 G) 87)).alloc (.cells #[.int .i64 0, .int .i64 0, .int .i64 0, .int .i64 0, .int .i64 0, .int .i64 0, .int .i64 0, .int .i64 0, .int .i64 0, .int .i64 0, .int .i64 0, .int .i64 0, .int .i64 0, .int .i64 0, .int .i64 0, .int .i64 0, .int .i64 0] 87)) w.heap.size 87 (cells1 F) := ((Blk.new w _ _).alloc _).alloc _
  have Y3 : Blk (((w.alloc (.cells (cells1 F) 87)).alloc (.cells (cells1 G) 87)).alloc (.cells #[.int .i64 0, .int .i64 0, .int .i64 0, .int .i64 0, .int .i64 0, .int .i64 0, .int .i64 0, .int .i64 0, .int .i64 0, .int .i64 0, .int .i64 0, .int .i64 0, .int .i64 0, .int .i64 0, .int .i64 0, .int .i64 0, .int .i64 0] 87)) (w.heap.size + 1) 87 (cells1 G) := by simpa using (Blk.new (w.alloc (.cells (cells1 F) 87)) 87 (cells1 G)).alloc (.cells #[.int .i64 0, .int .i64 0, .int .i64 0, .int .i64 0, .int .i64 0, .int .i64 0, .int .i64 0, .int .i64 0, .int .i64 0, .int .i64 0, .int .i64 0, .int .i64 0, .int .i64 0, .int .i64 0, .int .i64 0, .int .i64 0, .int .i64 0] 87)
  have R3 : Blk (((w.alloc (.cells (cells1 F) 87)).alloc (.cells (cells1 G) 87)).alloc (.cells #[.int .i64 0, .int .i64 0, .int .i64 0, .int .i64 0, .int .i64 0, .int .i64 0, .int .i64 0, .int .i64 0, .int .i64 0, .int .i64 0, .int .i64 0, .int .i64 0, .int .i64 0, .int .i64 0, .int .i64 0, .int .i64 0, .int .i64 0] 87)) (w.heap.size + 1 + 1) 87 #[.int .i64 0, .int .i64 0, .int .i64 0, .int .i64 0, .int .i64 0, .int .i64 0, .int .i64 0, .int .i64 0, .int .i64 0, .int .i64 0, .int .i64 0, .int .i64 0, .int .i64 0, .int .i64 0, .int .i64 0, .int .i64 0, .int .i64 0] := by simpa using Blk.new ((w.alloc (.cells (cells1 F) 87)).alloc (.cells (cells1 G) 87)) 87 #[.int .i64 0, .int .i64 0, .int .i64 0, .int .i64 0, .int .i64 0, .int .i64 0, .int .i64 0, .int .i64 0, .int .i64 0, .int .i64 0, .int .i64 0, .int .i64 0, .int .i64 0, .int .i64 0, .int .i64 0, .int .i64 0, .int .i64 0]
  have B3 : Below w.heap.size w (((w.alloc (.cells (cells1 F) 87)).alloc (.cells (cells1 G) 87)).alloc (.cells #[.int .i64 0, .int .i64 0, .int .i64 0, .int .i64 0, .int .i64 0, .int .i64 0, .int .i64 0, .int .i64 0, .int .i64 0, .int .i64 0, .int .i64 0, .int .i64 0, .int .i64 0, .int .i64 0, .int .i64 0, .int .i64 0, .int .i64 0] 87)) := (by repeat (first | exact Below.refl _ _ | refine Below.drew ?_ | refine below_drewN ?_ _ | refine Below.setCell ?_ (by first | omega | (simp; done) | (simp; omega)) _ | refine Below.alloc ?_ (by first | omega | (simp; done) | (simp; omega)) _))
  have N3 := N.keep B3
  have lN := N.lt
  have lNs := N.lts
  go_enter Tryz.func94, Tryz.ntmps94
  go_upto_region 1 with fail
  generalize (((w.alloc (.cells (cells1 F) 87)).alloc (.cells (cells1 G) 87)).alloc (.cells #[.int .i64 0, .int .i64 0, .int .i64 0, .int .i64 0, .int .i64 0, .int .i64 0, .int .i64 0, .int .i64 0, .int .i64 0, .int .i64 0, .int .i64 0, .int .i64 0, .int .i64 0, .int .i64 0, .int .i64 0, .int .i64 0, .int .i64 0] 87)) = w3 at *
  go_wp2_with (first | (refine wpList_load_blk rfl 87 _ rfl w.heap.size rfl X3 Tryz.underlying87 rfl (by rw [cells1_size, HF.out]; kernel_rfl) ?_) | (refine wpList_load_blk rfl 87 _ rfl (w.heap.size + 1) rfl Y3 Tryz.underlying87 rfl (by rw [cells1_size, HG.out]; kernel_rfl) ?_))
  refine (KP _ N3).mono ?_
  rintro e w4 ⟨rfl, cs, N4, hcs, O4⟩
  have nh : ∀ y, w.heap.size ≤ y → y ∉ b0 :: bs := fun y hy hm => by rcases List.mem_cons.1 hm with h | h; omega; (have := lNs _ h; omega)
  have X4 := X3.off O4 (nh _ (by omega))
  have Y4 := Y3.off O4 (nh _ (by omega))
  have R4 := R3.off O4 (nh _ (by omega))
  have P4 : Off (b0 :: bs) w w4 := (Off.ofBelow B3).trans O4
  have z3 := B3.size
  have l3 := R3.lt
  have hcs2 : ∀ y ∈ cs, y ∈ bs ∨ w.heap.size + 1 + 1 < y := fun y hy => by rcases hcs y hy with h | h; (exact .inl h); (right; omega)
  clear X3 Y3 R3 B3 N3 KP hcs
  have Zn := Blk.new w4 87 #[.int .i64 0, .int .i64 0, .int .i64 0, .int .i64 0, .int .i64 0, .int .i64 0, .int .i64 0, .int .i64 0, .int .i64 0, .int .i64 0, .int .i64 0, .int .i64 0, .int .i64 0, .int .i64 0, .int .i64 0, .int .i64 0, .int .i64 0]
  have z4 := O4.size
  go_upto_region 2 with (refine wpList_store_blk rfl 87 _ _ rfl w4.heap.size (cells1 P) rfl rfl Zn (by rw [cells1_size, HPL.out]; rfl) (by rw [cells1_size, HPL.out]; kernel_rfl) (cells1_one _) ?_; intro w5 P5 O5)
  have O5' : Off [w4.heap.size] w4 w5 := ((Off.refl _ _).alloc _).trans O5
  have l4 := N4.lts
  have ln4 := N4.lt
  have X5 := X4.off O5' (by simp; omega)
  have Y5 := Y4.off O5' (by simp; omega)
  have R5 := R4.off O5' (by simp; omega)
  have N5 := N4.off O5' (by simp; omega) (fun y hy hm => by have := l4 y hy; simp at hm; omega)
  have Q5 : Off (b0 :: bs) w w5 := P4.mix O5' (fun y hy => by simp at hy; right; omega)
  have lg : w.heap.size + 1 + 1 < w4.heap.size := by omega
  clear Zn O5 O5' X4 Y4 R4 N4 P4 O4
  generalize w4.heap.size = gp at *
  refine wp_region_held (S := fun V => V.rangeAt w.heap.size 0 (cells1 F).toList ∧ V.rangeAt (w.heap.size + 1) 0 (cells1 G).toList ∧ V.rangeAt gp 0 (cells1 P).toList) (by kernel_rfl) ?_
  try (change wpAnyH _ _ _ _ _ _ _ _ (World.drew _))
  have XD := X5.drew
  have YD := Y5.drew
  have RD := R5.drew
  have PD := P5.drew
  have ND : NetIn w5.drew b0 x2 cs := N5.keep (Below.refl _ _).drew
  have QD : Off (b0 :: bs) w w5.drew := Q5.trans (Off.ofBelow (Below.refl _ _).drew)
  have HSS : Hid (∀ V, Off [w.heap.size + 1 + 1] w5.drew V → V.rangeAt w.heap.size 0 (cells1 F).toList ∧ V.rangeAt (w.heap.size + 1) 0 (cells1 G).toList ∧ V.rangeAt gp 0 (cells1 P).toList) := fun V O => ⟨(XD.off O (by simp; omega)).range, (YD.off O (by simp)).range, (PD.off O (by simp; omega)).range⟩
  clear X5 Y5 R5 P5 N5 Q5 XD YD PD
  generalize w5.drew = w6 at *
  have hS := HSS.out _ (Off.refl _ _)
  refine wpAnyH_take (i := 0) (v := .agg (cells1 F)) rfl (by kernel_rfl) (by kernel_rfl) (by kernel_rfl) (fun _ _ _ h => h) (yieldsIf_load_mid (by rfl) _ _ rfl w.heap.size 0 rfl (cells1 F).toList _ (fun _ h => h.1) Tryz.underlying87 rfl (by rw [Array.length_toList, cells1_size, HF.out]; kernel_rfl)) hS ?_
  (try simp only [List.getElem_toArray]); (try simp only [List.getElem_cons_succ]); (try simp only [List.getElem_cons_zero]); (try simp only [Act.put]); (try simp only [List.setIfInBounds_toArray]); (try simp only [List.set_cons_succ]); (try simp only [List.set_cons_zero])
  refine wpAnyH_take (i := 1) (v := .agg (cells1 G)) rfl (by kernel_rfl) (by kernel_rfl) (by kernel_rfl) (fun _ _ _ h => h) (yieldsIf_load_mid (by rfl) _ _ rfl (w.heap.size + 1) 0 rfl (cells1 G).toList _ (fun _ h => h.2.1) Tryz.underlying87 rfl (by rw [Array.length_toList, cells1_size, HG.out]; kernel_rfl)) hS ?_
  (try simp only [List.getElem_toArray]); (try simp only [List.getElem_cons_succ]); (try simp only [List.getElem_cons_zero]); (try simp only [Act.put]); (try simp only [List.setIfInBounds_toArray]); (try simp only [List.set_cons_succ]); (try simp only [List.set_cons_zero])
  refine wpAnyH_take (i := 3) (v := .agg (cells1 P)) rfl (by kernel_rfl) (by kernel_rfl) (by kernel_rfl) (fun _ _ _ h => h) (yieldsIf_load_mid (by rfl) _ _ rfl gp 0 rfl (cells1 P).toList _ (fun _ h => h.2.2) Tryz.underlying87 rfl (by rw [Array.length_toList, cells1_size, HPL.out]; kernel_rfl)) hS ?_
  (try simp only [List.getElem_toArray]); (try simp only [List.getElem_cons_succ]); (try simp only [List.getElem_cons_zero]); (try simp only [Act.put]); (try simp only [List.setIfInBounds_toArray]); (try simp only [List.set_cons_succ]); (try simp only [List.set_cons_zero])
  refine wpAnyH_take (i := 4) (v := .agg (cells1 P)) rfl (by kernel_rfl) (by kernel_rfl) (by kernel_rfl) (fun _ _ _ h => h) (yieldsIf_load_mid (by rfl) _ _ rfl gp 0 rfl (cells1 P).toList _ (fun _ h => h.2.2) Tryz.underlying87 rfl (by rw [Array.length_toList, cells1_size, HPL.out]; kernel_rfl)) hS ?_
  (try simp only [List.getElem_toArray]); (try simp only [List.getElem_cons_succ]); (try simp only [List.getElem_cons_zero]); (try simp only [Act.put]); (try simp only [List.setIfInBounds_toArray]); (try simp only [List.set_cons_succ]); (try simp only [List.set_cons_zero])
  refine wpAnyH_ready (rs := [2]) (by kernel_rfl) (by simp) ?_
  refine AllReadyH.cons (o := _) rfl (fun K hK => ?_) AllReadyH.nil
  rw [if_pos (by rfl)]
  go_simp
  go_at_call 121
  refine (KA _).mono ?_
  rintro e v0 ⟨rfl, hb0⟩
  have c0 := hb0
  clear hb0
  dsimp only
  refine hK.out _ _ (HSS.out _ (Off.ofBelow c0)) (fun hS => ?_)
  clear hK K
  (try simp only [List.getElem_toArray]); (try simp only [List.getElem_cons_succ]); (try simp only [List.getElem_cons_zero]); (try simp only [Act.put]); (try simp only [List.setIfInBounds_toArray]); (try simp only [List.set_cons_succ]); (try simp only [List.set_cons_zero])
  refine wpAnyH_ready (rs := [5]) (by kernel_rfl) (by simp) ?_
  refine AllReadyH.cons (o := _) rfl (fun K hK => ?_) AllReadyH.nil
  rw [if_pos (by rfl)]
  go_simp
  go_at_call 121
  refine (KB _).mono ?_
  rintro e v1 ⟨rfl, hb1⟩
  have c1 := c0.trans (hb1.mono c0.size)
  clear hb1
  dsimp only
  refine hK.out _ _ (HSS.out _ (Off.ofBelow c1)) (fun hS => ?_)
  clear hK K
  (try simp only [List.getElem_toArray]); (try simp only [List.getElem_cons_succ]); (try simp only [List.getElem_cons_zero]); (try simp only [Act.put]); (try simp only [List.setIfInBounds_toArray]); (try simp only [List.set_cons_succ]); (try simp only [List.set_cons_zero])
  refine wpAnyH_ready (rs := [6]) (by kernel_rfl) (by simp) ?_
  refine AllReadyH.cons (o := _) rfl (fun K hK => ?_) AllReadyH.nil
  rw [if_pos (by rfl)]
  go_simp
  go_at_call 96
  refine (KC _).mono ?_
  rintro e v2 ⟨rfl, hb2⟩
  have c2 := c1.trans (hb2.mono c1.size)
  clear hb2
  dsimp only
  refine hK.out _ _ (HSS.out _ (Off.ofBelow c2)) (fun hS => ?_)
  clear hK K
  (try simp only [List.getElem_toArray]); (try simp only [List.getElem_cons_succ]); (try simp only [List.getElem_cons_zero]); (try simp only [Act.put]); (try simp only [List.setIfInBounds_toArray]); (try simp only [List.set_cons_succ]); (try simp only [List.set_cons_zero])
  have R7 := RD.keep c2
  have N7 := ND.keep c2
  have l7 := N7.lts
  have ln7 := N7.lt
  have Q7 : Off (b0 :: bs) w v2 := QD.trans (Off.ofBelow c2)
  refine wpAnyH_ready (rs := [7]) (by kernel_rfl) (by simp) ?_
  refine AllReadyH.cons (o := _) rfl (fun K hK => ?_) AllReadyH.nil
  refine step_store_blk rfl 87 _ _ rfl (w.heap.size + 1 + 1) (cells1 R) rfl rfl R7 (by rw [cells1_size, HXL.out]; rfl) (by rw [cells1_size, HXL.out]; kernel_rfl) (cells1_one _) ?_
  intro w9 R9 O9
  refine hK.out _ _ (HSS.out _ ((Off.ofBelow c2).trans O9)) (fun hS => ?_)
  clear hK K
  (try simp only [List.getElem_toArray]); (try simp only [List.getElem_cons_succ]); (try simp only [List.getElem_cons_zero]); (try simp only [Act.put]); (try simp only [List.setIfInBounds_toArray]); (try simp only [List.set_cons_succ]); (try simp only [List.set_cons_zero])
  refine wpAnyH_done (by kernel_rfl) ?_ _
  clear hS
  try go_wp2
  have hn : w.heap.size + 1 + 1 ∉ cs := fun h => by rcases hcs2 _ h with h | h; (have := lNs _ h; omega); omega
  exact bodyPost_ret (v := .agg (cells1 R)) (results_blk Tryz.results94 rfl R9 Tryz.underlying87 rfl (by rw [cells1_size, HXL.out]; kernel_rfl)) rfl ⟨rfl, cs, N7.off O9 (by simp; omega) (fun y hy hm => by simp at hm; exact hn (hm ▸ hy)), fun y hy => by rcases hcs2 y hy with h | h; (exact .inl h); (right; omega), Q7.mix O9 (fun y hy => by simp at hy; right; omega)⟩
end Go.Proofs.YtepobckhfodngaoGreat
