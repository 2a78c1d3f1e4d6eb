/-
  Sums bit by bit, in the program: addBits.
-/
import Derived.Test.YtepobckhfodngaoGreatNaA
import Derived.Test.YtepobckhfodngaoGreatMirUp
import Derived.Deep.Cut
namespace Go.Proofs.YtepobckhfodngaoGreat
open Go.ChangeShapes Go.WideShapes Go.ChangeAt Go.RowKit
set_option linter.unusedVariables false
def z17B : List Int := List.replicate 17 0
/-- the sums that stand already -/
def sumP (A B : Nat → List Int) (x : MNet) (k : Nat) : Nat → List Int := fun j => if j < k then 2 :: adS A B x j else z17B
theorem sumP_len (A B : Nat → List Int) (x : MNet) (k j : Nat) : (sumP A B x k j).length = 17 := by
  unfold sumP
  split
  · rw [List.length_cons, (adS_ok A B x j).1]
  · simp [z17B]
theorem sumP_next (A B : Nat → List Int) (x : MNet) (k : Nat) : shB (updP (sumP A B x k) k (2 :: adS A B x k)) = shB (sumP A B x (k + 1)) := by
  congr 1
  funext j
  unfold updP sumP
  by_cases h : j = k
  · subst h
    rw [if_pos rfl, if_pos (by omega)]
  · rw [if_neg h]
    by_cases h2 : j < k
    · rw [if_pos h2, if_pos (by omega)]
    · rw [if_neg h2, if_neg (by omega)]
theorem sumP_zero (A B : Nat → List Int) (x : MNet) : shB (fun _ => z17B) = shB (sumP A B x 0) := by
  congr 1
theorem shB_z : (#[.int .i64 0, .int .i64 0, .int .i64 0, .int .i64 0, .int .i64 0, .int .i64 0, .int .i64 0, .int .i64 0, .int .i64 0, .int .i64 0, .int .i64 0, .int .i64 0, .int .i64 0, .int .i64 0, .int .i64 0, .int .i64 0, .int .i64 0, .int .i64 0, .int .i64 0, .int .i64 0, .int .i64 0, .int .i64 0, .int .i64 0, .int .i64 0, .int .i64 0, .int .i64 0, .int .i64 0, .int .i64 0, .int .i64 0, .int .i64 0, .int .i64 0, .int .i64 0, .int .i64 0, .int .i64 0, .int .i64 0, .int .i64 0, .int .i64 0, .int .i64 0, .int .i64 0, .int .i64 0, .int .i64 0, .int .i64 0, .int .i64 0, .int .i64 0, .int .i64 0, .int .i64 0, .int .i64 0, .int .i64 0, .int .i64 0, .int .i64 0, .int .i64 0, .int .i64 0, .int .i64 0, .int .i64 0, .int .i64 0, .int .i64 0, .int .i64 0, .int .i64 0, .int .i64 0, .int .i64 0, .int .i64 0, .int .i64 0, .int .i64 0, .int .i64 0, .int .i64 0, .int .i64 0, .int .i64 0, .int .i64 0, .int .i64 0, .int .i64 0, .int .i64 0, .int .i64 0, .int .i64 0, .int .i64 0, .int .i64 0, .int .i64 0, .int .i64 0, .int .i64 0, .int .i64 0, .int .i64 0, .int .i64 0, .int .i64 0, .int .i64 0, .int .i64 0, .int .i64 0, .int .i64 0, .int .i64 0, .int .i64 0, .int .i64 0, .int .i64 0, .int .i64 0, .int .i64 0, .int .i64 0, .int .i64 0, .int .i64 0, .int .i64 0, .int .i64 0, .int .i64 0, .int .i64 0, .int .i64 0, .int .i64 0, .int .i64 0, .int .i64 0, .int .i64 0, .int .i64 0, .int .i64 0, .int .i64 0, .int .i64 0, .int .i64 0, .int .i64 0, .int .i64 0, .int .i64 0, .int .i64 0, .int .i64 0, .int .i64 0, .int .i64 0, .int .i64 0, .int .i64 0, .int .i64 0, .int .i64 0, .int .i64 0, .int .i64 0, .int .i64 0, .int .i64 0, .int .i64 0, .int .i64 0, .int .i64 0, .int .i64 0, .int .i64 0, .int .i64 0, .int .i64 0, .int .i64 0, .int .i64 0, .int .i64 0, .int .i64 0, .int .i64 0] : Array Value) = cells1 (shB (fun _ => z17B)) := by kernel_rfl
theorem zero_bitsA (w : World) : (zeroValue 156).run Tryz.prog w = .ok (.agg (cells1 (shB (fun _ => z17B)))) w := by rw [← shB_z]; kernel_rfl
theorem build_bits (w : World) : (Instr.build 156 #[]).run Tryz.prog w = .ok (.agg (cells1 (shB (fun _ => z17B)))) w := by kernel_rfl
/-- what a sum bit by bit answers -/
def AbOut (w w' : World) (e : Ending) (A B : Nat → List Int) (x : MNet) (b0 : Nat) (bs : List Nat) : Prop := ∃ R, e = .returned (.agg (cells1 (shB R))) ∧ (∀ k, k < 8 → (R k).length = 17) ∧ (x.xQuarrel.xSome = false → (adR A B x).xQuarrel.xSome = false → ∀ k, k < 8 → R k = 2 :: adS A B x k) ∧ ∃ cs, NetIn w' b0 (if x.xQuarrel.xSome = true then x else adR A B x) cs ∧ (∀ y ∈ cs, y ∈ bs ∨ w.heap.size ≤ y) ∧ Off (b0 :: bs) w w'
/-- where the sum stands ahead of place k -/
def AbIn (w wr : World) (PA PB A B : Nat → List Int) (x : MNet) (b0 gC bc bn gD : Nat) (bs : List Nat) (k : Nat) : Prop :=
  ∃ cs, Blk wr w.heap.size 156 (cells1 (shB PA)) ∧ Blk wr (w.heap.size + 1) 156 (cells1 (shB PB)) ∧ Blk wr (w.heap.size + 2) 156 (cells1 (shB (fun _ => z17B))) ∧ Blk wr gD 156 (cells1 (shB (sumP A B x k))) ∧ Blk wr gC 87 (cells1 (2 :: adCa A B x (min k 7))) ∧ NetIn wr b0 (adNt A B x (min k 7)) cs ∧ wr.cell? ⟨bc, 0, none⟩ = some (.pointer (some ⟨gC, 0, none⟩)) ∧ wr.cell? ⟨bn, 0, none⟩ = some (.pointer (some ⟨b0, 0, none⟩)) ∧ bc < wr.heap.size ∧ bn < wr.heap.size ∧ (∀ y, y = gC ∨ y = bc ∨ y = bn → y ∉ cs) ∧ (∀ y ∈ cs, y ∈ bs ∨ gD < y) ∧ Off (b0 :: bs) w wr ∧ ∀ i, i < k → (adNt A B x (min i 7)).xQuarrel.xSome = false
set_option maxHeartbeats 16000000 in
set_option maxRecDepth 100000 in
theorem impl_addBits (PA PB A B : Nat → List Int) (b0 : Nat) (x : MNet) (bs : List Nat) (m : Nat) (w : World) (N : NetIn w b0 x bs) (hx : NetB m x) (hm : m ≤ 199800) (hPA : ∀ k, k < 8 → (PA k).length = 17) (hPB : ∀ k, k < 8 → (PB k).length = 17)
    (hA : x.xQuarrel.xSome = false → ∀ k, k < 8 → PA k = 2 :: A k ∧ Ok16 2 (A k) ∧ Own0 (A k)) (hB : x.xQuarrel.xSome = false → ∀ k, k < 8 → PB k = 2 :: B k ∧ Ok16 2 (B k)) :
    Calls Tryz.prog 119 #[.pointer (some ⟨b0, 0, none⟩), .agg (cells1 (shB PA)), .agg (cells1 (shB PB))] w fun e w' => AbOut w w' e A B x b0 bs := by
  have hmf : ∀ (fn : Fn) (first cap : Array Value) (w : World), (Instr.makeFunc fn first cap).run Tryz.prog w = .ok (.func fn first cap) w := fun _ _ _ _ => rfl
  have lN := N.lt
  have lNs := N.lts
  have HBL : Hid (∀ P : Nat → List Int, (shB P).length = 136) := shB_len
  have HZS : Hid (shB (fun _ => z17B) = shB (sumP A B x 0)) := sumP_zero A B x
  have hz := zero_bitsA
  obtain ⟨ZL, hZL⟩ : ∃ l, l = shB (fun _ => z17B) := ⟨_, rfl⟩
  rw [← hZL] at hz HZS
  have HZL : Hid (shB (fun _ => z17B) = ZL) := hZL.symm
  clear hZL
  have A4 : Blk ((((w.alloc (.cells (cells1 (shB PA)) 156)).alloc (.cells (cells1 (shB PB)) 156)).alloc (.cells (cells1 ZL) 156)).alloc (.cells (cells1 ZL) 156)) w.heap.size 156 (cells1 (shB PA)) := (((Blk.new w _ _).alloc _).alloc _).alloc _
  have B4 : Blk ((((w.alloc (.cells (cells1 (shB PA)) 156)).alloc (.cells (cells1 (shB PB)) 156)).alloc (.cells (cells1 ZL) 156)).alloc (.cells (cells1 ZL) 156)) (w.heap.size + 1) 156 (cells1 (shB PB)) := by simpa using ((Blk.new (w.alloc (.cells (cells1 (shB PA)) 156)) 156 (cells1 (shB PB))).alloc (.cells (cells1 ZL) 156)).alloc (.cells (cells1 ZL) 156)
  have R4 : Blk ((((w.alloc (.cells (cells1 (shB PA)) 156)).alloc (.cells (cells1 (shB PB)) 156)).alloc (.cells (cells1 ZL) 156)).alloc (.cells (cells1 ZL) 156)) (w.heap.size + 2) 156 (cells1 ZL) := by simpa using (Blk.new ((w.alloc (.cells (cells1 (shB PA)) 156)).alloc (.cells (cells1 (shB PB)) 156)) 156 (cells1 ZL)).alloc (.cells (cells1 ZL) 156)
  have D4 : Blk ((((w.alloc (.cells (cells1 (shB PA)) 156)).alloc (.cells (cells1 (shB PB)) 156)).alloc (.cells (cells1 ZL) 156)).alloc (.cells (cells1 ZL) 156)) (w.heap.size + 3) 156 (cells1 ZL) := by simpa using Blk.new (((w.alloc (.cells (cells1 (shB PA)) 156)).alloc (.cells (cells1 (shB PB)) 156)).alloc (.cells (cells1 ZL) 156)) 156 (cells1 ZL)
  have b4 : Below w.heap.size w ((((w.alloc (.cells (cells1 (shB PA)) 156)).alloc (.cells (cells1 (shB PB)) 156)).alloc (.cells (cells1 ZL) 156)).alloc (.cells (cells1 ZL) 156)) := (by repeat (first | exact Below.refl _ _ | refine Below.drew ?_ | refine below_drewN ?_ _ | refine Below.setCell ?_ (by first | omega | (simp; done) | (simp; omega)) _ | refine Below.alloc ?_ (by first | omega | (simp; done) | (simp; omega)) _))
  have z4 : Hid ((((((w.alloc (.cells (cells1 (shB PA)) 156)).alloc (.cells (cells1 (shB PB)) 156)).alloc (.cells (cells1 ZL) 156)).alloc (.cells (cells1 ZL) 156))).heap.size = w.heap.size + 4) := by show _ = _; simp
  have N4 := N.keep b4
  go_enter Tryz.func119, Tryz.ntmps119
  go_upto_region 2 with fail
  generalize ((((w.alloc (.cells (cells1 (shB PA)) 156)).alloc (.cells (cells1 (shB PB)) 156)).alloc (.cells (cells1 ZL) 156)).alloc (.cells (cells1 ZL) 156)) = w4 at *
  rw [← HZL.out] at R4
  rw [HZS.out] at D4
  clear N hz
  go_wp2_with fail
  refine (impl_PlainMirror 2 0 _).mono ?_
  rintro e w5 ⟨u, bm, rfl, ⟨p, c, rfl, hM⟩, hbm, hb5⟩
  have hmo : mirrorOfR 2 [0, 0, 0, 0] = ⟨0, ⟨2, mirRows [0, 0, 0, 0]⟩⟩ := by kernel_rfl
  rw [hmo] at hM ⊢
  have hml : ({ xCode := 0, xMirror := { xQ := 2, xViews := mirRows [0, 0, 0, 0] } } : MMirrorResult).xMirror.xViews.length = 4 := rfl
  simp only [hml]
  have hsq : Sq (mirRows [0, 0, 0, 0]) := ⟨rfl, fun i hi => by obtain rfl | rfl | rfl | rfl : i = 0 ∨ i = 1 ∨ i = 2 ∨ i = 3 := (by omega) <;> rfl⟩
  have hfl : (mirRows [0, 0, 0, 0]).flatten = z16L := by kernel_rfl
  have KV := impl_shareOf (.agg #[.int .i64 2, .slice p 4 c]) ⟨2, mirRows [0, 0, 0, 0]⟩ w5 ⟨p, c, rfl, hM.reads⟩ hsq
  change Calls _ _ _ _ (fun e w' => e = .returned (.agg (cells1 (2 :: (mirRows [0, 0, 0, 0]).flatten))) ∧ _) at KV
  rw [hfl] at KV
  have fm := fieldMrR_1
  have A5 := A4.keep hb5
  have B5 := B4.keep hb5
  have R5 := R4.keep hb5
  have D5 := D4.keep hb5
  have N5 := N4.keep hb5
  have b5 := b4.trans (hb5.mono b4.size)
  clear A4 B4 R4 D4 N4 b4 hM hbm hmo hml hsq hfl
  have s5 := hb5.size
  have z4o := z4.out
  clear hb5
  have HC16 : Hid (((2 : Int) :: z16L).length = 17) := rfl
  go_wp2_with fail
  refine KV.mono ?_
  rintro e w6 ⟨rfl, hb6⟩
  have A6 := A5.keep hb6
  have B6 := B5.keep hb6
  have R6 := R5.keep hb6
  have D6 := D5.keep hb6
  have N6 := N5.keep hb6
  have b6 := b5.trans (hb6.mono b5.size)
  have s6 := hb6.size
  have Cn := Blk.new w6 87 #[.int .i64 0, .int .i64 0, .int .i64 0, .int .i64 0, .int .i64 0, .int .i64 0, .int .i64 0, .int .i64 0, .int .i64 0, .int .i64 0, .int .i64 0, .int .i64 0, .int .i64 0, .int .i64 0, .int .i64 0, .int .i64 0, .int .i64 0]
  clear A5 B5 R5 D5 N5 b5 hb6 KV fm
  go_upto_region 3 with (refine wpList_store_blk rfl 87 _ _ rfl w6.heap.size (cells1 (2 :: z16L)) rfl rfl Cn (by rw [cells1_size, HC16.out]; rfl) (by rw [cells1_size, HC16.out]; kernel_rfl) (cells1_one _) ?_; intro w7 C7 O7)
  have O7' : Off [w6.heap.size] w6 w7 := ((Off.refl _ _).alloc _).trans O7
  have lD6 := D6.lt
  have A7 := A6.off O7' (by simp; omega)
  have B7 := B6.off O7' (by simp; omega)
  have R7 := R6.off O7' (by simp; omega)
  have D7 := D6.off O7' (by simp; omega)
  have N7 := N6.off O7' (by simp; omega) (fun y hy hm => by have := lNs y hy; simp at hm; omega)
  have b7 := b6.trans (O7'.toBelow b6.size (by simp; omega))
  have hgC : w.heap.size + 4 ≤ w6.heap.size := by omega
  have lC7 := C7.lt
  clear Cn O7 O7' A6 B6 R6 D6 N6 b6 s5 s6 z4o lD6
  generalize w6.heap.size = gC at *
  go_wp2_with fail
  refine (impl_adder (some ⟨b0, 0, none⟩) (some ⟨gC, 0, none⟩) w7).mono ?_
  rintro e w8 ⟨bc, bn, rfl, hbc, hbn, lbc, lbn, k1, k2, hb8⟩
  have S8 : AbIn w w8 PA PB A B x b0 gC bc bn (w.heap.size + 3) bs 0 := ⟨bs, A7.keep hb8, B7.keep hb8, by have := R7.keep hb8; exact this, by have := D7.keep hb8; first | exact this | (rw [HZS.out] at this; exact this), C7.keep hb8, N7.keep hb8, k1, k2, lbc, lbn, fun y hy hm => by have := lNs _ hm; rcases hy with h | h | h <;> omega, fun y hy => .inl hy, (Off.ofBelow b7).trans (Off.ofBelow hb8), fun i hi => absurd hi (Nat.not_lt_zero _)⟩
  have HBC : Hid (gC < bc ∧ gC < bn ∧ w.heap.size + 4 ≤ gC) := by show _ ∧ _ ∧ _; omega
  have HOK : Hid (x.xQuarrel.xSome = false → ∀ k, k ≤ 7 → Ok16 2 (adCa A B x k) ∧ Own0 (adCa A B x k) ∧ NetB (m + 12 * k) (adNt A B x k)) := fun h => adSt_ok (fun k hk => (hA h k hk).2) (fun k hk => (hB h k hk).2) hx
  have HPA : Hid (∀ k, k < 8 → (PA k).length = 17) := hPA
  have HPB : Hid (∀ k, k < 8 → (PB k).length = 17) := hPB
  have HAk : Hid (x.xQuarrel.xSome = false → ∀ k, k < 8 → PA k = 2 :: A k ∧ Ok16 2 (A k) ∧ Own0 (A k)) := hA
  have HBk : Hid (x.xQuarrel.xSome = false → ∀ k, k < 8 → PB k = 2 :: B k ∧ Ok16 2 (B k)) := hB
  have HRA : Hid (∀ j, j ≤ 7 → (∀ i, i < j → (adNt A B x i).xQuarrel.xSome = false) → ((adNt A B x j).xQuarrel.xSome = true ∨ j = 7) → adR A B x = adNt A B x j) := fun j h2 h3 h4 => adR_at h2 h3 h4
  have hbld := build_bits
  rw [HZL.out] at hbld
  have HBLD : Hid (∀ w, (Instr.build 156 #[]).run Tryz.prog w = .ok (.agg (cells1 ZL)) w) := hbld
  have HZ8 : Hid (ZL.length = 136) := by show _ = _; rw [← HZL.out]; exact shB_len _
  clear A7 B7 R7 D7 N7 b7 C7 lC7 hb8 hbc hbn lbc lbn k1 k2 hmf hx hA hB hPA hPB hbld HC16 z4
  go_wp2
  go_loopw [10, 16] (fun _ i wr => ∃ k : Nat, k ≤ 8 ∧ i = .int .i64 k ∧ AbIn w wr PA PB A B x b0 gC bc bn (w.heap.size + 3) bs k) (fun _ i _ => 8 - (intOf i).toNat)
  case atStart => exact ⟨0, Nat.zero_le _, rfl, S8⟩
  case round =>
    clear S8
    obtain ⟨k, hk, rfl, cs, KA, KB, KR, KD, KC, KN, k1, k2, lbc, lbn, hap, hcs, P, hqs⟩ := hrel
    by_cases hlt : k < 8
    · have hk1 : (k : Int) < 8 := by omega
      have hk0 : (0 : Int) ≤ (k : Int) := by omega
      have emin : min k 7 = k := by omega
      rw [emin] at KC KN
      have c8 := KN.some8
      have lb := KN.lt
      have HQS : Hid (∀ i, i < k → (adNt A B x i).xQuarrel.xSome = false) := fun i hi => by have := hqs i hi; rwa [show min i 7 = i by omega] at this
      have HCS : Hid (∀ y ∈ cs, y ∈ bs ∨ w.heap.size + 3 < y) := hcs
      clear hqs hcs emin
      cases hq : (adNt A B x k).xQuarrel.xSome
      · rw [hq] at c8
        have hx0 : x.xQuarrel.xSome = false := by
          by_cases h : k = 0
          · rw [h] at hq; exact hq
          · exact HQS.out 0 (by omega)
        obtain ⟨oC, wC, NBk⟩ := HOK.out hx0 k (by omega)
        obtain ⟨eA, oA, -⟩ := HAk.out hx0 k hlt
        obtain ⟨eB, oB⟩ := HBk.out hx0 k hlt
        have hbn' := HBC.out
        have zP := P.size
        have n0 : gC ∉ b0 :: cs := fun hm => by rcases List.mem_cons.1 hm with h | h; omega; (exact hap gC (.inl rfl) h)
        have n1 : bc ∉ b0 :: gC :: cs := fun hm => by rcases List.mem_cons.1 hm with h | h; omega; (rcases List.mem_cons.1 h with h | h; omega; (exact hap bc (.inr (.inl rfl)) h))
        have n2 : bn ∉ b0 :: gC :: cs := fun hm => by rcases List.mem_cons.1 hm with h | h; omega; (rcases List.mem_cons.1 h with h | h; omega; (exact hap bn (.inr (.inr rfl)) h))
        have hrA := fun V (h : Blk V w.heap.size 156 (cells1 (shB PA))) => shB_range h k hlt (HPA.out k hlt)
        have hrB := fun V (h : Blk V (w.heap.size + 1) 156 (cells1 (shB PB))) => shB_range h k hlt (HPB.out k hlt)
        rw [eA] at hrA
        rw [eB] at hrB
        have HLA : Hid (((2 : Int) :: A k).length = 17) := by show _ = _; rw [List.length_cons, oA.1]
        have HLB : Hid (((2 : Int) :: B k).length = 17) := by show _ = _; rw [List.length_cons, oB.1]
        have HLS : Hid (((2 : Int) :: adS A B x k).length = 17) := by show _ = _; rw [List.length_cons, (adS_ok A B x k).1]
        have hnw : ∀ y, w.heap.size ≤ y → y ≤ w.heap.size + 3 → y ∉ b0 :: gC :: cs := fun y h1 h2 hm => by
          rcases List.mem_cons.1 hm with h | h
          · omega
          · rcases List.mem_cons.1 h with h | h
            · omega
            · rcases HCS.out y h with h3 | h3
              · have := lNs _ h3; omega
              · omega
        have HS : Hid (∀ V, Off (b0 :: gC :: cs) wr V → V.rangeAt w.heap.size (k * 17) (cells1 (2 :: A k)).toList ∧ V.rangeAt (w.heap.size + 1) (k * 17) (cells1 (2 :: B k)).toList) := fun V h => ⟨hrA V (KA.off h (hnw _ (by omega) (by omega))), hrB V (KB.off h (hnw _ (by omega) (by omega)))⟩
        have HS2 : Hid (∀ V V', Off (b0 :: gC :: cs) wr V → Off [w.heap.size + 3] V V' → V'.rangeAt w.heap.size (k * 17) (cells1 (2 :: A k)).toList ∧ V'.rangeAt (w.heap.size + 1) (k * 17) (cells1 (2 :: B k)).toList) := fun V V' h h' => ⟨hrA V' ((KA.off h (hnw _ (by omega) (by omega))).off h' (by simp)), hrB V' ((KB.off h (hnw _ (by omega) (by omega))).off h' (by simp))⟩
        have KT := fun last W hN hG hk1 hk2 hl1 hl2 => impl_adder1 (A k) (B k) (adCa A B x k) last bc bn gC b0 (adNt A B x k) cs (m + 12 * k) W hN NBk (by omega) oA oB oC hG hk1 hk2 hl1 hl2 n0 n1 n2
        have hSS : addF 2 (addF 2 (A k) (adCa A B x k)) (B k) = adS A B x k := rfl
        rw [hSS] at KT
        clear hrA hrB eA eB oA oB oC wC NBk hap hSS
        by_cases h7 : k = 7
        · skip
          have e7 : (((k : Nat) : Int) == 7) = true := by simp; omega
          have H7 : Hid (k = 7) := h7
          clear h7
          go_wp2_with fail
          refine wp_region_held (S := fun V => V.rangeAt w.heap.size (k * 17) (cells1 (2 :: A k)).toList ∧ V.rangeAt (w.heap.size + 1) (k * 17) (cells1 (2 :: B k)).toList) (by kernel_rfl) ?_
          try (change wpAnyH _ _ _ _ _ _ _ _ (World.drew _))
          have bd : Below wr.heap.size wr wr.drew := (Below.refl _ _).drew
          have hS := HS.out _ (Off.ofBelow bd)
          have Kd := KN.keep bd
          have Cd := KC.keep bd
          have Od : Off (b0 :: gC :: cs) wr wr.drew := Off.ofBelow bd
          clear c8
          have kd1 := (bd.cell (p := ⟨bc, 0, none⟩) lbc).trans k1
          have kd2 := (bd.cell (p := ⟨bn, 0, none⟩) lbn).trans k2
          have ld1 : bc < wr.drew.heap.size := lbc
          have ld2 : bn < wr.drew.heap.size := lbn
          have zd : wr.drew.heap.size = wr.heap.size := rfl
          clear bd
          generalize wr.drew = ud at *
          refine wpAnyH_take (i := 0) (v := ?vn1) rfl (by kernel_rfl) (by kernel_rfl) (by kernel_rfl) (fun _ _ _ h => h) (Or.inl ⟨by rfl, ?hn1⟩) hS ?rn1
          case hn1 => intro w' hSw; obtain ⟨s0, s1⟩ := hSw; clear s0 s1; go_simp; (try with_reducible rfl)
          (try simp only [List.getElem_toArray]); (try simp only [List.getElem_cons_succ]); (try simp only [List.getElem_cons_zero]); (try simp only [Act.put]); (try simp only [List.setIfInBounds_toArray]); (try simp only [List.set_cons_succ]); (try simp only [List.set_cons_zero])
          refine wpAnyH_take (i := 1) (v := ?vn2) rfl (by kernel_rfl) (by kernel_rfl) (by kernel_rfl) (fun _ _ _ h => h) (Or.inl ⟨by rfl, ?hn2⟩) hS ?rn2
          case hn2 => intro w' hSw; obtain ⟨s0, s1⟩ := hSw; clear s0 s1; go_simp; (try with_reducible rfl)
          (try simp only [List.getElem_toArray]); (try simp only [List.getElem_cons_succ]); (try simp only [List.getElem_cons_zero]); (try simp only [Act.put]); (try simp only [List.setIfInBounds_toArray]); (try simp only [List.set_cons_succ]); (try simp only [List.set_cons_zero])
          refine wpAnyH_take (i := 2) (v := ?vn3) rfl (by kernel_rfl) (by kernel_rfl) (by kernel_rfl) (fun _ _ _ h => h) (Or.inl ⟨by rfl, ?hn3⟩) hS ?rn3
          case hn3 => intro w' hSw; obtain ⟨s0, s1⟩ := hSw; clear s0 s1; go_simp; (try with_reducible rfl)
          (try simp only [List.getElem_toArray]); (try simp only [List.getElem_cons_succ]); (try simp only [List.getElem_cons_zero]); (try simp only [Act.put]); (try simp only [List.setIfInBounds_toArray]); (try simp only [List.set_cons_succ]); (try simp only [List.set_cons_zero])
          refine wpAnyH_take (i := 3) (v := ?vn4) rfl (by kernel_rfl) (by kernel_rfl) (by kernel_rfl) (fun _ _ _ h => h) (Or.inl ⟨by rfl, ?hn4⟩) hS ?rn4
          case hn4 => intro w' hSw; obtain ⟨s0, s1⟩ := hSw; clear s0 s1; go_simp; (try with_reducible rfl)
          (try simp only [List.getElem_toArray]); (try simp only [List.getElem_cons_succ]); (try simp only [List.getElem_cons_zero]); (try simp only [Act.put]); (try simp only [List.setIfInBounds_toArray]); (try simp only [List.set_cons_succ]); (try simp only [List.set_cons_zero])
          refine wpAnyH_take (i := 4) (v := .agg (cells1 (2 :: A k))) rfl (by kernel_rfl) (by kernel_rfl) (by kernel_rfl) (fun _ _ _ h => h) (yieldsIf_load_mid (by rfl) _ _ rfl w.heap.size (k * 17) rfl (cells1 (2 :: A k)).toList _ (fun _ h => h.1) Tryz.underlying87 rfl (by rw [Array.length_toList, cells1_size, HLA.out]; kernel_rfl)) hS ?_
          (try simp only [List.getElem_toArray]); (try simp only [List.getElem_cons_succ]); (try simp only [List.getElem_cons_zero]); (try simp only [Act.put]); (try simp only [List.setIfInBounds_toArray]); (try simp only [List.set_cons_succ]); (try simp only [List.set_cons_zero])
          refine wpAnyH_take (i := 5) (v := ?vn5) rfl (by kernel_rfl) (by kernel_rfl) (by kernel_rfl) (fun _ _ _ h => h) (Or.inl ⟨by rfl, ?hn5⟩) hS ?rn5
          case hn5 => intro w' hSw; obtain ⟨s0, s1⟩ := hSw; clear s0 s1; go_simp; (try with_reducible rfl)
          (try simp only [List.getElem_toArray]); (try simp only [List.getElem_cons_succ]); (try simp only [List.getElem_cons_zero]); (try simp only [Act.put]); (try simp only [List.setIfInBounds_toArray]); (try simp only [List.set_cons_succ]); (try simp only [List.set_cons_zero])
          refine wpAnyH_take (i := 6) (v := ?vn6) rfl (by kernel_rfl) (by kernel_rfl) (by kernel_rfl) (fun _ _ _ h => h) (Or.inl ⟨by rfl, ?hn6⟩) hS ?rn6
          case hn6 => intro w' hSw; obtain ⟨s0, s1⟩ := hSw; clear s0 s1; go_simp; (try with_reducible rfl)
          (try simp only [List.getElem_toArray]); (try simp only [List.getElem_cons_succ]); (try simp only [List.getElem_cons_zero]); (try simp only [Act.put]); (try simp only [List.setIfInBounds_toArray]); (try simp only [List.set_cons_succ]); (try simp only [List.set_cons_zero])
          refine wpAnyH_take (i := 7) (v := .agg (cells1 (2 :: B k))) rfl (by kernel_rfl) (by kernel_rfl) (by kernel_rfl) (fun _ _ _ h => h) (yieldsIf_load_mid (by rfl) _ _ rfl (w.heap.size + 1) (k * 17) rfl (cells1 (2 :: B k)).toList _ (fun _ h => h.2) Tryz.underlying87 rfl (by rw [Array.length_toList, cells1_size, HLB.out]; kernel_rfl)) hS ?_
          (try simp only [List.getElem_toArray]); (try simp only [List.getElem_cons_succ]); (try simp only [List.getElem_cons_zero]); (try simp only [Act.put]); (try simp only [List.setIfInBounds_toArray]); (try simp only [List.set_cons_succ]); (try simp only [List.set_cons_zero])
          refine wpAnyH_take (i := 8) (v := ?vn7) rfl (by kernel_rfl) (by kernel_rfl) (by kernel_rfl) (fun _ _ _ h => h) (Or.inl ⟨by rfl, ?hn7⟩) hS ?rn7
          case hn7 => intro w' hSw; obtain ⟨s0, s1⟩ := hSw; clear s0 s1; go_simp; (try with_reducible rfl)
          (try simp only [List.getElem_toArray]); (try simp only [List.getElem_cons_succ]); (try simp only [List.getElem_cons_zero]); (try simp only [Act.put]); (try simp only [List.setIfInBounds_toArray]); (try simp only [List.set_cons_succ]); (try simp only [List.set_cons_zero])
          refine wpAnyH_take (i := 9) (v := ?vn8) rfl (by kernel_rfl) (by kernel_rfl) (by kernel_rfl) (fun _ _ _ h => h) (Or.inl ⟨by rfl, ?hn8⟩) hS ?rn8
          case hn8 => intro w' hSw; obtain ⟨s0, s1⟩ := hSw; clear s0 s1; go_simp; (try with_reducible rfl)
          (try simp only [List.getElem_toArray]); (try simp only [List.getElem_cons_succ]); (try simp only [List.getElem_cons_zero]); (try simp only [Act.put]); (try simp only [List.setIfInBounds_toArray]); (try simp only [List.set_cons_succ]); (try simp only [List.set_cons_zero])
          refine wpAnyH_ready (rs := [10]) (by kernel_rfl) (by simp) ?_
          refine AllReadyH.cons (o := _) rfl (fun K hK => ?_) AllReadyH.nil
          rw [if_pos (by rfl)]
          go_simp
          go_at_call 147
          refine (KT true _ Kd Cd kd1 kd2 ld1 ld2).mono ?_
          rintro e w5 ⟨rfl, C5, cs5, N5, hcs5, O5⟩
          have O65 := Od.trans O5
          have P5 : Off (b0 :: bs) w w5 := (P.mix O65 (fun y hy => by rcases List.mem_cons.1 hy with h | h; (left; rw [h]; simp); (rcases List.mem_cons.1 h with h | h; (right; omega); (rcases HCS.out y h with h2 | h2; (left; simp [h2]); (right; omega)))))
          have A5 := KA.off O65 (hnw _ (by omega) (by omega))
          have B5 := KB.off O65 (hnw _ (by omega) (by omega))
          have R5 := KR.off O65 (hnw _ (by omega) (by omega))
          have D5 := KD.off O65 (hnw _ (by omega) (by omega))
          have z5 := O65.size
          have q1 := ((O65.at bc lbc n1).1 _).trans k1
          have q2 := ((O65.at bn lbn n2).1 _).trans k2
          have hcs5w : ∀ y ∈ cs5, y ∈ bs ∨ w.heap.size + 3 < y := fun y hy => by rcases hcs5 y hy with h | h; (exact HCS.out y h); (right; have := KD.lt; omega)
          have hap5 : ∀ y, y = gC ∨ y = bc ∨ y = bn → y ∉ cs5 := fun y hy hm => by rcases hcs5 y hm with h | h; (rcases hy with e | e | e; (rw [e] at h; exact n0 (List.mem_cons.2 (.inr h))); (rw [e] at h; exact n1 (List.mem_cons.2 (.inr (List.mem_cons.2 (.inr h))))); (rw [e] at h; exact n2 (List.mem_cons.2 (.inr (List.mem_cons.2 (.inr h)))))); (have := KC.lt; rcases hy with e | e | e <;> omega)
          dsimp only
          refine hK.out _ _ (HS.out _ O65) (fun hS => ?_)
          clear hK K
          (try simp only [List.getElem_toArray]); (try simp only [List.getElem_cons_succ]); (try simp only [List.getElem_cons_zero]); (try simp only [Act.put]); (try simp only [List.setIfInBounds_toArray]); (try simp only [List.set_cons_succ]); (try simp only [List.set_cons_zero])
          refine wpAnyH_take (i := 11) (v := ?vn9) rfl (by kernel_rfl) (by kernel_rfl) (by kernel_rfl) (fun _ _ _ h => h) (Or.inl ⟨by rfl, ?hn9⟩) hS ?rn9
          case hn9 => intro w' hSw; obtain ⟨s0, s1⟩ := hSw; clear s0 s1; go_simp; (try with_reducible rfl)
          (try simp only [List.getElem_toArray]); (try simp only [List.getElem_cons_succ]); (try simp only [List.getElem_cons_zero]); (try simp only [Act.put]); (try simp only [List.setIfInBounds_toArray]); (try simp only [List.set_cons_succ]); (try simp only [List.set_cons_zero])
          refine wpAnyH_ready (rs := [12]) (by kernel_rfl) (by simp) ?_
          refine AllReadyH.cons (o := _) rfl (fun K hK => ?_) AllReadyH.nil
          refine step_store_bits rfl 87 _ _ rfl (w.heap.size + 3) k (2 :: adS A B x k) rfl rfl D5 hlt HLS.out (by rw [cells1_size, HLS.out]; kernel_rfl) ?_
          intro w6 D6 O6
          refine hK.out _ _ (HS2.out _ _ O65 O6) (fun hS => ?_)
          clear hK K
          (try simp only [List.getElem_toArray]); (try simp only [List.getElem_cons_succ]); (try simp only [List.getElem_cons_zero]); (try simp only [Act.put]); (try simp only [List.setIfInBounds_toArray]); (try simp only [List.set_cons_succ]); (try simp only [List.set_cons_zero])
          refine wpAnyH_done (by kernel_rfl) ?_ _
          clear hS
          rw [sumP_next] at D6
          have hbw := HBC.out
          have zC := C5.lt
          have h7 := H7.out
          have S6 : AbIn w w6 PA PB A B x b0 gC bc bn (w.heap.size + 3) bs (k + 1) := ⟨cs5, A5.off O6 (by simp), B5.off O6 (by simp), R5.off O6 (by simp), D6, by rw [show min (k + 1) 7 = k by omega]; exact C5.off O6 (by simp; omega), by rw [show min (k + 1) 7 = k by omega]; exact N5.off O6 (by simp; omega) (fun y hy hm => by simp at hm; rcases hcs5w y hy with h | h; (have := lNs _ h; omega); omega), ((O6.at bc (by omega) (by simp; omega)).1 _).trans q1, ((O6.at bn (by omega) (by simp; omega)).1 _).trans q2, by have := O6.size; omega, by have := O6.size; omega, hap5, hcs5w, P5.mix O6 (fun y hy => by simp at hy; right; omega), fun i hi => by rw [show min i 7 = i by omega]; by_cases h : i = k; (rw [h]; exact hq); (exact HQS.out i (by omega))⟩
          have hkk : k < 8 := hlt
          clear h7 A5 B5 R5 D5 D6 C5 N5 q1 q2 hap5 P5 O65 O6 KA KB KR KD KC KN P
          go_wp2
          go_roundw
          case rel => exact ⟨k + 1, hkk, by go_num, S6⟩
          case measure => simp [intOf]; omega
        · skip
          have e7 : (((k : Nat) : Int) == 7) = false := by simp; omega
          have H7 : Hid (¬ k = 7) := h7
          clear h7
          go_wp2_with fail
          refine wp_region_held (S := fun V => V.rangeAt w.heap.size (k * 17) (cells1 (2 :: A k)).toList ∧ V.rangeAt (w.heap.size + 1) (k * 17) (cells1 (2 :: B k)).toList) (by kernel_rfl) ?_
          try (change wpAnyH _ _ _ _ _ _ _ _ (World.drew _))
          have bd : Below wr.heap.size wr wr.drew := (Below.refl _ _).drew
          have hS := HS.out _ (Off.ofBelow bd)
          have Kd := KN.keep bd
          have Cd := KC.keep bd
          have Od : Off (b0 :: gC :: cs) wr wr.drew := Off.ofBelow bd
          clear c8
          have kd1 := (bd.cell (p := ⟨bc, 0, none⟩) lbc).trans k1
          have kd2 := (bd.cell (p := ⟨bn, 0, none⟩) lbn).trans k2
          have ld1 : bc < wr.drew.heap.size := lbc
          have ld2 : bn < wr.drew.heap.size := lbn
          have zd : wr.drew.heap.size = wr.heap.size := rfl
          clear bd
          generalize wr.drew = ud at *
          refine wpAnyH_take (i := 0) (v := ?vn10) rfl (by kernel_rfl) (by kernel_rfl) (by kernel_rfl) (fun _ _ _ h => h) (Or.inl ⟨by rfl, ?hn10⟩) hS ?rn10
          case hn10 => intro w' hSw; obtain ⟨s0, s1⟩ := hSw; clear s0 s1; go_simp; (try with_reducible rfl)
          (try simp only [List.getElem_toArray]); (try simp only [List.getElem_cons_succ]); (try simp only [List.getElem_cons_zero]); (try simp only [Act.put]); (try simp only [List.setIfInBounds_toArray]); (try simp only [List.set_cons_succ]); (try simp only [List.set_cons_zero])
          refine wpAnyH_take (i := 1) (v := ?vn11) rfl (by kernel_rfl) (by kernel_rfl) (by kernel_rfl) (fun _ _ _ h => h) (Or.inl ⟨by rfl, ?hn11⟩) hS ?rn11
          case hn11 => intro w' hSw; obtain ⟨s0, s1⟩ := hSw; clear s0 s1; go_simp; (try with_reducible rfl)
          (try simp only [List.getElem_toArray]); (try simp only [List.getElem_cons_succ]); (try simp only [List.getElem_cons_zero]); (try simp only [Act.put]); (try simp only [List.setIfInBounds_toArray]); (try simp only [List.set_cons_succ]); (try simp only [List.set_cons_zero])
          refine wpAnyH_take (i := 2) (v := ?vn12) rfl (by kernel_rfl) (by kernel_rfl) (by kernel_rfl) (fun _ _ _ h => h) (Or.inl ⟨by rfl, ?hn12⟩) hS ?rn12
          case hn12 => intro w' hSw; obtain ⟨s0, s1⟩ := hSw; clear s0 s1; go_simp; (try with_reducible rfl)
          (try simp only [List.getElem_toArray]); (try simp only [List.getElem_cons_succ]); (try simp only [List.getElem_cons_zero]); (try simp only [Act.put]); (try simp only [List.setIfInBounds_toArray]); (try simp only [List.set_cons_succ]); (try simp only [List.set_cons_zero])
          refine wpAnyH_take (i := 3) (v := ?vn13) rfl (by kernel_rfl) (by kernel_rfl) (by kernel_rfl) (fun _ _ _ h => h) (Or.inl ⟨by rfl, ?hn13⟩) hS ?rn13
          case hn13 => intro w' hSw; obtain ⟨s0, s1⟩ := hSw; clear s0 s1; go_simp; (try with_reducible rfl)
          (try simp only [List.getElem_toArray]); (try simp only [List.getElem_cons_succ]); (try simp only [List.getElem_cons_zero]); (try simp only [Act.put]); (try simp only [List.setIfInBounds_toArray]); (try simp only [List.set_cons_succ]); (try simp only [List.set_cons_zero])
          refine wpAnyH_take (i := 4) (v := .agg (cells1 (2 :: A k))) rfl (by kernel_rfl) (by kernel_rfl) (by kernel_rfl) (fun _ _ _ h => h) (yieldsIf_load_mid (by rfl) _ _ rfl w.heap.size (k * 17) rfl (cells1 (2 :: A k)).toList _ (fun _ h => h.1) Tryz.underlying87 rfl (by rw [Array.length_toList, cells1_size, HLA.out]; kernel_rfl)) hS ?_
          (try simp only [List.getElem_toArray]); (try simp only [List.getElem_cons_succ]); (try simp only [List.getElem_cons_zero]); (try simp only [Act.put]); (try simp only [List.setIfInBounds_toArray]); (try simp only [List.set_cons_succ]); (try simp only [List.set_cons_zero])
          refine wpAnyH_take (i := 5) (v := ?vn14) rfl (by kernel_rfl) (by kernel_rfl) (by kernel_rfl) (fun _ _ _ h => h) (Or.inl ⟨by rfl, ?hn14⟩) hS ?rn14
          case hn14 => intro w' hSw; obtain ⟨s0, s1⟩ := hSw; clear s0 s1; go_simp; (try with_reducible rfl)
          (try simp only [List.getElem_toArray]); (try simp only [List.getElem_cons_succ]); (try simp only [List.getElem_cons_zero]); (try simp only [Act.put]); (try simp only [List.setIfInBounds_toArray]); (try simp only [List.set_cons_succ]); (try simp only [List.set_cons_zero])
          refine wpAnyH_take (i := 6) (v := ?vn15) rfl (by kernel_rfl) (by kernel_rfl) (by kernel_rfl) (fun _ _ _ h => h) (Or.inl ⟨by rfl, ?hn15⟩) hS ?rn15
          case hn15 => intro w' hSw; obtain ⟨s0, s1⟩ := hSw; clear s0 s1; go_simp; (try with_reducible rfl)
          (try simp only [List.getElem_toArray]); (try simp only [List.getElem_cons_succ]); (try simp only [List.getElem_cons_zero]); (try simp only [Act.put]); (try simp only [List.setIfInBounds_toArray]); (try simp only [List.set_cons_succ]); (try simp only [List.set_cons_zero])
          refine wpAnyH_take (i := 7) (v := .agg (cells1 (2 :: B k))) rfl (by kernel_rfl) (by kernel_rfl) (by kernel_rfl) (fun _ _ _ h => h) (yieldsIf_load_mid (by rfl) _ _ rfl (w.heap.size + 1) (k * 17) rfl (cells1 (2 :: B k)).toList _ (fun _ h => h.2) Tryz.underlying87 rfl (by rw [Array.length_toList, cells1_size, HLB.out]; kernel_rfl)) hS ?_
          (try simp only [List.getElem_toArray]); (try simp only [List.getElem_cons_succ]); (try simp only [List.getElem_cons_zero]); (try simp only [Act.put]); (try simp only [List.setIfInBounds_toArray]); (try simp only [List.set_cons_succ]); (try simp only [List.set_cons_zero])
          refine wpAnyH_take (i := 8) (v := ?vn16) rfl (by kernel_rfl) (by kernel_rfl) (by kernel_rfl) (fun _ _ _ h => h) (Or.inl ⟨by rfl, ?hn16⟩) hS ?rn16
          case hn16 => intro w' hSw; obtain ⟨s0, s1⟩ := hSw; clear s0 s1; go_simp; (try with_reducible rfl)
          (try simp only [List.getElem_toArray]); (try simp only [List.getElem_cons_succ]); (try simp only [List.getElem_cons_zero]); (try simp only [Act.put]); (try simp only [List.setIfInBounds_toArray]); (try simp only [List.set_cons_succ]); (try simp only [List.set_cons_zero])
          refine wpAnyH_take (i := 9) (v := ?vn17) rfl (by kernel_rfl) (by kernel_rfl) (by kernel_rfl) (fun _ _ _ h => h) (Or.inl ⟨by rfl, ?hn17⟩) hS ?rn17
          case hn17 => intro w' hSw; obtain ⟨s0, s1⟩ := hSw; clear s0 s1; go_simp; (try with_reducible rfl)
          (try simp only [List.getElem_toArray]); (try simp only [List.getElem_cons_succ]); (try simp only [List.getElem_cons_zero]); (try simp only [Act.put]); (try simp only [List.setIfInBounds_toArray]); (try simp only [List.set_cons_succ]); (try simp only [List.set_cons_zero])
          refine wpAnyH_ready (rs := [10]) (by kernel_rfl) (by simp) ?_
          refine AllReadyH.cons (o := _) rfl (fun K hK => ?_) AllReadyH.nil
          rw [if_pos (by rfl)]
          go_simp
          go_at_call 147
          refine (KT false _ Kd Cd kd1 kd2 ld1 ld2).mono ?_
          rintro e w5 ⟨rfl, C5, cs5, N5, hcs5, O5⟩
          have O65 := Od.trans O5
          have P5 : Off (b0 :: bs) w w5 := (P.mix O65 (fun y hy => by rcases List.mem_cons.1 hy with h | h; (left; rw [h]; simp); (rcases List.mem_cons.1 h with h | h; (right; omega); (rcases HCS.out y h with h2 | h2; (left; simp [h2]); (right; omega)))))
          have A5 := KA.off O65 (hnw _ (by omega) (by omega))
          have B5 := KB.off O65 (hnw _ (by omega) (by omega))
          have R5 := KR.off O65 (hnw _ (by omega) (by omega))
          have D5 := KD.off O65 (hnw _ (by omega) (by omega))
          have z5 := O65.size
          have q1 := ((O65.at bc lbc n1).1 _).trans k1
          have q2 := ((O65.at bn lbn n2).1 _).trans k2
          have hcs5w : ∀ y ∈ cs5, y ∈ bs ∨ w.heap.size + 3 < y := fun y hy => by rcases hcs5 y hy with h | h; (exact HCS.out y h); (right; have := KD.lt; omega)
          have hap5 : ∀ y, y = gC ∨ y = bc ∨ y = bn → y ∉ cs5 := fun y hy hm => by rcases hcs5 y hm with h | h; (rcases hy with e | e | e; (rw [e] at h; exact n0 (List.mem_cons.2 (.inr h))); (rw [e] at h; exact n1 (List.mem_cons.2 (.inr (List.mem_cons.2 (.inr h))))); (rw [e] at h; exact n2 (List.mem_cons.2 (.inr (List.mem_cons.2 (.inr h)))))); (have := KC.lt; rcases hy with e | e | e <;> omega)
          dsimp only
          refine hK.out _ _ (HS.out _ O65) (fun hS => ?_)
          clear hK K
          (try simp only [List.getElem_toArray]); (try simp only [List.getElem_cons_succ]); (try simp only [List.getElem_cons_zero]); (try simp only [Act.put]); (try simp only [List.setIfInBounds_toArray]); (try simp only [List.set_cons_succ]); (try simp only [List.set_cons_zero])
          refine wpAnyH_take (i := 11) (v := ?vn18) rfl (by kernel_rfl) (by kernel_rfl) (by kernel_rfl) (fun _ _ _ h => h) (Or.inl ⟨by rfl, ?hn18⟩) hS ?rn18
          case hn18 => intro w' hSw; obtain ⟨s0, s1⟩ := hSw; clear s0 s1; go_simp; (try with_reducible rfl)
          (try simp only [List.getElem_toArray]); (try simp only [List.getElem_cons_succ]); (try simp only [List.getElem_cons_zero]); (try simp only [Act.put]); (try simp only [List.setIfInBounds_toArray]); (try simp only [List.set_cons_succ]); (try simp only [List.set_cons_zero])
          refine wpAnyH_ready (rs := [12]) (by kernel_rfl) (by simp) ?_
          refine AllReadyH.cons (o := _) rfl (fun K hK => ?_) AllReadyH.nil
          refine step_store_bits rfl 87 _ _ rfl (w.heap.size + 3) k (2 :: adS A B x k) rfl rfl D5 hlt HLS.out (by rw [cells1_size, HLS.out]; kernel_rfl) ?_
          intro w6 D6 O6
          refine hK.out _ _ (HS2.out _ _ O65 O6) (fun hS => ?_)
          clear hK K
          (try simp only [List.getElem_toArray]); (try simp only [List.getElem_cons_succ]); (try simp only [List.getElem_cons_zero]); (try simp only [Act.put]); (try simp only [List.setIfInBounds_toArray]); (try simp only [List.set_cons_succ]); (try simp only [List.set_cons_zero])
          refine wpAnyH_done (by kernel_rfl) ?_ _
          clear hS
          rw [sumP_next] at D6
          have hbw := HBC.out
          have zC := C5.lt
          have h7 := H7.out
          have S6 : AbIn w w6 PA PB A B x b0 gC bc bn (w.heap.size + 3) bs (k + 1) := ⟨cs5, A5.off O6 (by simp), B5.off O6 (by simp), R5.off O6 (by simp), D6, by rw [show min (k + 1) 7 = k + 1 by omega]; exact C5.off O6 (by simp; omega), by rw [show min (k + 1) 7 = k + 1 by omega]; exact N5.off O6 (by simp; omega) (fun y hy hm => by simp at hm; rcases hcs5w y hy with h | h; (have := lNs _ h; omega); omega), ((O6.at bc (by omega) (by simp; omega)).1 _).trans q1, ((O6.at bn (by omega) (by simp; omega)).1 _).trans q2, by have := O6.size; omega, by have := O6.size; omega, hap5, hcs5w, P5.mix O6 (fun y hy => by simp at hy; right; omega), fun i hi => by rw [show min i 7 = i by omega]; by_cases h : i = k; (rw [h]; exact hq); (exact HQS.out i (by omega))⟩
          have hkk : k < 8 := hlt
          clear h7 A5 B5 R5 D5 D6 C5 N5 q1 q2 hap5 P5 O65 O6 KA KB KR KD KC KN P
          go_wp2
          go_roundw
          case rel => exact ⟨k + 1, hkk, by go_num, S6⟩
          case measure => simp [intOf]; omega
      · rw [hq] at c8
        have eR : (if x.xQuarrel.xSome = true then x else adR A B x) = adNt A B x k := by
          by_cases h : k = 0
          · subst h; exact if_pos hq
          · rw [if_neg (by rw [show x.xQuarrel.xSome = false from HQS.out 0 (by omega)]; decide)]
            exact HRA.out k (by omega) HQS.out (.inl hq)
        have HER : Hid ((if x.xQuarrel.xSome = true then x else adR A B x) = adNt A B x k) := eR
        have HQ9 : Hid (x.xQuarrel.xSome = false → (adR A B x).xQuarrel.xSome = false → ∀ j, j < 8 → z17B = 2 :: adS A B x j) := fun h1 h2 => by
          rw [if_neg (by rw [h1]; decide)] at eR
          rw [eR, hq] at h2
          cases h2
        rw [HZL.out] at KR
        clear eR KA KB KD KC
        go_wp2_with (first | (refine wpList_build rfl 156 _ rfl #[] (by kernel_rfl) (.agg (cells1 ZL)) (HBLD.out _) ?_) | (refine wpList_store_blk rfl 156 _ _ rfl (w.heap.size + 2) (cells1 ZL) rfl rfl KR (by rw [cells1_size]) (by rw [cells1_size, HZ8.out]; kernel_rfl) (cells1_one _) ?_; intro w20 R20 O20))
        try rw [Exit.noGoto_ret]
        refine bodyPost_ret (v := .agg (cells1 ZL)) (results_blk Tryz.results119 rfl R20 Tryz.underlying156 rfl (by rw [cells1_size, HZ8.out]; kernel_rfl)) rfl ?_
        refine ⟨fun _ => z17B, by rw [HZL.out], fun _ _ => rfl, HQ9.out, cs, by rw [HER.out]; exact KN.off O20 (by simp; omega) (fun y hy hm => by simp at hm; rcases HCS.out y hy with h | h; (have := lNs _ h; omega); omega), fun y hy => by rcases HCS.out y hy with h | h; (exact .inl h); (right; omega), P.mix O20 (fun y hy => by simp at hy; right; omega)⟩
    · obtain rfl : k = 8 := by omega
      have HX0 : Hid (x.xQuarrel.xSome = false) := hqs 0 (by omega)
      have eR : adR A B x = adNt A B x 7 := HRA.out 7 (by omega) (fun i hi => by have := hqs i (by omega); rwa [show min i 7 = i by omega] at this) (.inr rfl)
      have HER : Hid ((if x.xQuarrel.xSome = true then x else adR A B x) = adNt A B x 7) := by show _ = _; rw [if_neg (by rw [HX0.out]; decide), eR]
      have KN7 : NetIn wr b0 (adNt A B x 7) cs := KN
      have HS8 : Hid (∀ j, j < 8 → sumP A B x 8 j = 2 :: adS A B x j) := fun j hj => if_pos hj
      have HSL : Hid (∀ j, j < 8 → (sumP A B x 8 j).length = 17) := fun j _ => sumP_len A B x 8 j
      have HSB : Hid ((shB (sumP A B x 8)).length = 136) := shB_len _
      have lbn := KN7.lt
      rw [HZL.out] at KR
      clear eR KA KB KC KN hqs hlt
      generalize sumP A B x 8 = SP at *
      go_wp2_with (first | (refine wpList_load_blk rfl 156 _ rfl (w.heap.size + 3) rfl KD Tryz.underlying156 rfl (by rw [cells1_size, HSB.out]; kernel_rfl) ?_) | (refine wpList_store_blk rfl 156 _ _ rfl (w.heap.size + 2) (cells1 (shB SP)) rfl rfl KR (by rw [cells1_size, cells1_size, HZ8.out, HSB.out]) (by rw [cells1_size, HSB.out]; kernel_rfl) (cells1_one _) ?_; intro w20 R20 O20))
      try rw [Exit.noGoto_ret]
      exact bodyPost_ret (v := .agg (cells1 (shB SP))) (results_blk Tryz.results119 rfl R20 Tryz.underlying156 rfl (by rw [cells1_size, HSB.out]; kernel_rfl)) rfl ⟨SP, rfl, HSL.out, fun _ _ => HS8.out, cs, by rw [HER.out]; exact KN7.off O20 (by simp; omega) (fun y hy hm => by simp at hm; rcases hcs y hy with h | h; (have := lNs _ h; omega); omega), fun y hy => by rcases hcs y hy with h | h; (exact .inl h); (right; omega), P.mix O20 (fun y hy => by simp at hy; right; omega)⟩
end Go.Proofs.YtepobckhfodngaoGreat
