/-
  Bit to bit, in the program: the adder, and what it makes.
-/
import Derived.Test.YtepobckhfodngaoGreatNaM
import Derived.Test.YtepobckhfodngaoGreatNX
import Derived.Deep.Cut
namespace Go.Proofs.YtepobckhfodngaoGreat
open Go.ChangeShapes Go.WideShapes Go.ChangeAt Go.RowKit
set_option linter.unusedVariables false
theorem impl_adder (p q : Option Addr) (w : World) :
    Calls Tryz.prog 135 #[.pointer p, .pointer q] w fun e w' => ∃ bc bn, e = .returned (.func (.func 147) #[] #[.pointer (some ⟨bc, 0, none⟩), .pointer (some ⟨bn, 0, none⟩)]) ∧ w.heap.size ≤ bc ∧ w.heap.size ≤ bn ∧ bc < w'.heap.size ∧ bn < w'.heap.size ∧ w'.cell? ⟨bc, 0, none⟩ = some (.pointer q) ∧ w'.cell? ⟨bn, 0, none⟩ = some (.pointer p) ∧ Below w.heap.size w w' := by
  have hmf : ∀ (fn : Fn) (first cap : Array Value) (w : World), (Instr.makeFunc fn first cap).run Tryz.prog w = .ok (.func fn first cap) w := fun _ _ _ _ => rfl
  have P0 := (Blk.new w 70 #[.pointer p]).alloc (.cells #[.pointer q] 171)
  have Q0 := Blk.new (w.alloc (.cells #[.pointer p] 70)) 171 #[.pointer q]
  have z1 : (w.alloc (.cells #[.pointer p] 70)).heap.size = w.heap.size + 1 := by simp
  rw [z1] at Q0
  clear z1
  have B0 : Below w.heap.size w ((w.alloc (.cells #[.pointer p] 70)).alloc (.cells #[.pointer q] 171)) := ((Below.refl _ _).alloc (Nat.le_refl _) _).alloc ((Below.refl _ _).alloc (Nat.le_refl _) _).size _
  have c0 := P0.at.1 0
  have c1 := Q0.at.1 0
  have l0 := P0.lt
  have l1 := Q0.lt
  clear P0 Q0
  go_enter Tryz.func135, Tryz.ntmps135
  go_wp2
  go_ret
  exact ⟨w.heap.size + 1, w.heap.size, rfl, by omega, Nat.le_refl _, l1, l0, c1, c0, B0⟩
set_option maxHeartbeats 16000000 in
set_option maxRecDepth 100000 in
theorem impl_adder1 (fs gs c : List Int) (last : Bool) (bc bn gC b0 : Nat) (x : MNet) (bs : List Nat) (m : Nat) (w : World) (N : NetIn w b0 x bs) (B : NetB m x) (hm : m ≤ 199970) (hf : Ok16 2 fs) (hg : Ok16 2 gs) (hc : Ok16 2 c) (G : Blk w gC 87 (cells1 (2 :: c)))
    (k1 : w.cell? ⟨bc, 0, none⟩ = some (.pointer (some ⟨gC, 0, none⟩))) (k2 : w.cell? ⟨bn, 0, none⟩ = some (.pointer (some ⟨b0, 0, none⟩))) (l1 : bc < w.heap.size) (l2 : bn < w.heap.size) (n0 : gC ∉ b0 :: bs) (n1 : bc ∉ b0 :: gC :: bs) (n2 : bn ∉ b0 :: gC :: bs) :
    Calls Tryz.prog 147 #[.agg (cells1 (2 :: fs)), .agg (cells1 (2 :: gs)), .bool last, .pointer (some ⟨bc, 0, none⟩), .pointer (some ⟨bn, 0, none⟩)] w fun e w' => e = .returned (.agg (cells1 (2 :: addF 2 (addF 2 fs c) gs))) ∧ Blk w' gC 87 (cells1 (2 :: if last = true then c else addF 2 (prF 2 (addF 2 fs c) (addF 2 gs c) x) c)) ∧ ∃ cs, NetIn w' b0 (if last = true then x else prX 2 (addF 2 fs c) (addF 2 gs c) x) cs ∧ (∀ y ∈ cs, y ∈ bs ∨ w.heap.size ≤ y) ∧ Off (b0 :: gC :: bs) w w' := by
  have okX : Ok16 2 (addF 2 fs c) := addF_ok16 (.inl rfl) _ _
  have okY : Ok16 2 (addF 2 gs c) := addF_ok16 (.inl rfl) _ _
  have KA := fun W => impl_share_plus 2 2 fs c W (.inl rfl) hf hc
  have KB := fun W => impl_share_plus 2 2 gs c W (.inl rfl) hg hc
  have KS := fun W => impl_share_plus 2 2 (addF 2 fs c) gs W (.inl rfl) okX hg
  have KP := fun W hN => impl_product 2 2 (addF 2 fs c) (addF 2 gs c) b0 x bs m W hN B hm (.inl rfl) okX okY
  have KC := fun W => impl_share_plus 2 2 (prF 2 (addF 2 fs c) (addF 2 gs c) x) c W (.inl rfl) (prF_ok (.inl rfl) _ _ B).2 hc
  have HF : Hid ((2 :: fs).length = 17) := by show _ = _; rw [List.length_cons, hf.1]
  have HG : Hid ((2 :: gs).length = 17) := by show _ = _; rw [List.length_cons, hg.1]
  have HC : Hid ((2 :: c).length = 17) := by show _ = _; rw [List.length_cons, hc.1]
  have HX : Hid ((2 :: addF 2 fs c).length = 17) := by show _ = _; rw [List.length_cons, okX.1]
  have HY : Hid ((2 :: addF 2 gs c).length = 17) := by show _ = _; rw [List.length_cons, okY.1]
  have HSS : Hid ((2 :: addF 2 (addF 2 fs c) gs).length = 17) := by show _ = _; rw [List.length_cons, addF_len]
  have HN : Hid ((2 :: addF 2 (prF 2 (addF 2 fs c) (addF 2 gs c) x) c).length = 17) := by show _ = _; rw [List.length_cons, addF_len]
  clear hf hg hc okX okY B
  generalize addF 2 (addF 2 fs c) gs = ss at *
  generalize addF 2 (prF 2 (addF 2 fs c) (addF 2 gs c) x) c = nn at *
  generalize prX 2 (addF 2 fs c) (addF 2 gs c) x = x2 at *
  generalize Value.agg (cells1 (2 :: prF 2 (addF 2 fs c) (addF 2 gs c) x)) = vp at *
  generalize addF 2 fs c = X at *
  generalize addF 2 gs c = Y at *
  have X3 : Blk (((w.alloc (.cells (cells1 (2 :: fs)) 87)).alloc (.cells (cells1 (2 :: gs)) 87)).alloc (.cells #[.int .i64 0, .int .i64 0, .int .i64 0, .int .i64 0, .int .i64 0, .int .i64 0, .int .i64 0, .int .i64 0, .int .i64 0, .int .i64 0, .int .i64 0, .int .i64 0, .int .i64 0, .int .i64 0, .int .i64 0, .int .i64 0, .int .i64 0] 87)) w.heap.size 87 (cells1 (2 :: fs)) := ((Blk.new w _ _).alloc _).alloc _
  have Y3 : Blk (((w.alloc (.cells (cells1 (2 :: fs)) 87)).alloc (.cells (cells1 (2 :: gs)) 87)).alloc (.cells #[.int .i64 0, .int .i64 0, .int .i64 0, .int .i64 0, .int .i64 0, .int .i64 0, .int .i64 0, .int .i64 0, .int .i64 0, .int .i64 0, .int .i64 0, .int .i64 0, .int .i64 0, .int .i64 0, .int .i64 0, .int .i64 0, .int .i64 0] 87)) (w.heap.size + 1) 87 (cells1 (2 :: gs)) := by simpa using (Blk.new (w.alloc (.cells (cells1 (2 :: fs)) 87)) 87 (cells1 (2 :: gs))).alloc (.cells #[.int .i64 0, .int .i64 0, .int .i64 0, .int .i64 0, .int .i64 0, .int .i64 0, .int .i64 0, .int .i64 0, .int .i64 0, .int .i64 0, .int .i64 0, .int .i64 0, .int .i64 0, .int .i64 0, .int .i64 0, .int .i64 0, .int .i64 0] 87)
  have R3 : Blk (((w.alloc (.cells (cells1 (2 :: fs)) 87)).alloc (.cells (cells1 (2 :: gs)) 87)).alloc (.cells #[.int .i64 0, .int .i64 0, .int .i64 0, .int .i64 0, .int .i64 0, .int .i64 0, .int .i64 0, .int .i64 0, .int .i64 0, .int .i64 0, .int .i64 0, .int .i64 0, .int .i64 0, .int .i64 0, .int .i64 0, .int .i64 0, .int .i64 0] 87)) (w.heap.size + 1 + 1) 87 #[.int .i64 0, .int .i64 0, .int .i64 0, .int .i64 0, .int .i64 0, .int .i64 0, .int .i64 0, .int .i64 0, .int .i64 0, .int .i64 0, .int .i64 0, .int .i64 0, .int .i64 0, .int .i64 0, .int .i64 0, .int .i64 0, .int .i64 0] := by simpa using Blk.new ((w.alloc (.cells (cells1 (2 :: fs)) 87)).alloc (.cells (cells1 (2 :: gs)) 87)) 87 #[.int .i64 0, .int .i64 0, .int .i64 0, .int .i64 0, .int .i64 0, .int .i64 0, .int .i64 0, .int .i64 0, .int .i64 0, .int .i64 0, .int .i64 0, .int .i64 0, .int .i64 0, .int .i64 0, .int .i64 0, .int .i64 0, .int .i64 0]
  have B3 : Below w.heap.size w (((w.alloc (.cells (cells1 (2 :: fs)) 87)).alloc (.cells (cells1 (2 :: gs)) 87)).alloc (.cells #[.int .i64 0, .int .i64 0, .int .i64 0, .int .i64 0, .int .i64 0, .int .i64 0, .int .i64 0, .int .i64 0, .int .i64 0, .int .i64 0, .int .i64 0, .int .i64 0, .int .i64 0, .int .i64 0, .int .i64 0, .int .i64 0, .int .i64 0] 87)) := (by repeat (first | exact Below.refl _ _ | refine Below.drew ?_ | refine below_drewN ?_ _ | refine Below.setCell ?_ (by first | omega | (simp; done) | (simp; omega)) _ | refine Below.alloc ?_ (by first | omega | (simp; done) | (simp; omega)) _))
  have N3 := N.keep B3
  have G3 := G.keep B3
  have k1c : (((w.alloc (.cells (cells1 (2 :: fs)) 87)).alloc (.cells (cells1 (2 :: gs)) 87)).alloc (.cells #[.int .i64 0, .int .i64 0, .int .i64 0, .int .i64 0, .int .i64 0, .int .i64 0, .int .i64 0, .int .i64 0, .int .i64 0, .int .i64 0, .int .i64 0, .int .i64 0, .int .i64 0, .int .i64 0, .int .i64 0, .int .i64 0, .int .i64 0] 87)).cell? ⟨bc, 0, none⟩ = _ := (B3.cell (p := ⟨bc, 0, none⟩) l1).trans k1
  have k2c : (((w.alloc (.cells (cells1 (2 :: fs)) 87)).alloc (.cells (cells1 (2 :: gs)) 87)).alloc (.cells #[.int .i64 0, .int .i64 0, .int .i64 0, .int .i64 0, .int .i64 0, .int .i64 0, .int .i64 0, .int .i64 0, .int .i64 0, .int .i64 0, .int .i64 0, .int .i64 0, .int .i64 0, .int .i64 0, .int .i64 0, .int .i64 0, .int .i64 0] 87)).cell? ⟨bn, 0, none⟩ = _ := (B3.cell (p := ⟨bn, 0, none⟩) l2).trans k2
  have lN := N.lt
  have lNs := N.lts
  have lG := G.lt
  have z3 : Hid ((((w.alloc (.cells (cells1 (2 :: fs)) 87)).alloc (.cells (cells1 (2 :: gs)) 87)).alloc (.cells #[.int .i64 0, .int .i64 0, .int .i64 0, .int .i64 0, .int .i64 0, .int .i64 0, .int .i64 0, .int .i64 0, .int .i64 0, .int .i64 0, .int .i64 0, .int .i64 0, .int .i64 0, .int .i64 0, .int .i64 0, .int .i64 0, .int .i64 0] 87)).heap.size = w.heap.size + 3) := by show _ = _; simp
  have HK1 : Hid (w.cell? ⟨bc, 0, none⟩ = some (.pointer (some ⟨gC, 0, none⟩))) := k1
  have HK2 : Hid (w.cell? ⟨bn, 0, none⟩ = some (.pointer (some ⟨b0, 0, none⟩))) := k2
  clear N G k1 k2
  go_enter Tryz.func147, Tryz.ntmps147
  go_upto_region 1 with fail
  generalize (((w.alloc (.cells (cells1 (2 :: fs)) 87)).alloc (.cells (cells1 (2 :: gs)) 87)).alloc (.cells #[.int .i64 0, .int .i64 0, .int .i64 0, .int .i64 0, .int .i64 0, .int .i64 0, .int .i64 0, .int .i64 0, .int .i64 0, .int .i64 0, .int .i64 0, .int .i64 0, .int .i64 0, .int .i64 0, .int .i64 0, .int .i64 0, .int .i64 0] 87)) = w3 at *
  have HS1 : Hid (∀ V, Below w3.heap.size w3 V → V.cell? ⟨bc, 0, none⟩ = some (.pointer (some ⟨gC, 0, none⟩)) ∧ V.cell? ⟨bn, 0, none⟩ = some (.pointer (some ⟨b0, 0, none⟩)) ∧ V.rangeAt w.heap.size 0 (cells1 (2 :: fs)).toList ∧ V.rangeAt (w.heap.size + 1) 0 (cells1 (2 :: gs)).toList ∧ V.rangeAt gC 0 (cells1 (2 :: c)).toList) := fun V h => ⟨(h.cell (p := ⟨bc, 0, none⟩) (by have := B3.size; show bc < _; omega)).trans k1c, (h.cell (p := ⟨bn, 0, none⟩) (by have := B3.size; show bn < _; omega)).trans k2c, (X3.keep h).range, (Y3.keep h).range, (G3.keep h).range⟩
  go_cut [9, 10] from 12 (fun u v wz => ∃ gA gB, u = .pointer (some ⟨gA, 0, none⟩) ∧ v = .pointer (some ⟨gB, 0, none⟩) ∧ Blk wz gA 87 (cells1 (2 :: X)) ∧ Blk wz gB 87 (cells1 (2 :: Y)) ∧ w3.heap.size ≤ gA ∧ w3.heap.size ≤ gB ∧ Below w3.heap.size w3 wz)
  case first =>
    refine wp_region_held (S := fun V => V.cell? ⟨bc, 0, none⟩ = some (.pointer (some ⟨gC, 0, none⟩)) ∧ V.cell? ⟨bn, 0, none⟩ = some (.pointer (some ⟨b0, 0, none⟩)) ∧ V.rangeAt w.heap.size 0 (cells1 (2 :: fs)).toList ∧ V.rangeAt (w.heap.size + 1) 0 (cells1 (2 :: gs)).toList ∧ V.rangeAt gC 0 (cells1 (2 :: c)).toList) (by kernel_rfl) ?_
    try (change wpAnyH _ _ _ _ _ _ _ _ (World.drew _))
    have b0d : Below w3.heap.size w3 w3.drew := (Below.refl _ _).drew
    have hS := HS1.out _ b0d
    generalize w3.drew = u0 at *
    refine wpAnyH_take (i := 0) (v := .agg (cells1 (2 :: fs))) rfl (by kernel_rfl) (by kernel_rfl) (by kernel_rfl) (fun _ _ _ h => h) (yieldsIf_load_mid (by rfl) _ _ rfl w.heap.size 0 rfl (cells1 (2 :: fs)).toList _ (fun _ h => h.2.2.1) Tryz.underlying87 rfl (by rw [Array.length_toList, cells1_size, HF.out]; kernel_rfl)) hS ?_
    (try simp only [List.getElem_toArray]); (try simp only [List.getElem_cons_succ]); (try simp only [List.getElem_cons_zero]); (try simp only [Act.put]); (try simp only [List.setIfInBounds_toArray]); (try simp only [List.set_cons_succ]); (try simp only [List.set_cons_zero])
    refine wpAnyH_take (i := 1) (v := ?vn1) rfl (by kernel_rfl) (by kernel_rfl) (by kernel_rfl) (fun _ _ _ h => h) (Or.inl ⟨by rfl, ?hn1⟩) hS ?rn1
    case hn1 => intro w' hSw; obtain ⟨s0, s1, s2, s3, s4⟩ := hSw; clear s2 s3 s4; go_simp; (try with_reducible rfl)
    (try simp only [List.getElem_toArray]); (try simp only [List.getElem_cons_succ]); (try simp only [List.getElem_cons_zero]); (try simp only [Act.put]); (try simp only [List.setIfInBounds_toArray]); (try simp only [List.set_cons_succ]); (try simp only [List.set_cons_zero])
    refine wpAnyH_take (i := 2) (v := ?vn2) rfl (by kernel_rfl) (by kernel_rfl) (by kernel_rfl) (fun _ _ _ h => h) (Or.inl ⟨by rfl, ?hn2⟩) hS ?rn2
    case hn2 => intro w' hSw; obtain ⟨s0, s1, s2, s3, s4⟩ := hSw; clear s2 s3 s4; go_simp; (try with_reducible rfl)
    (try simp only [List.getElem_toArray]); (try simp only [List.getElem_cons_succ]); (try simp only [List.getElem_cons_zero]); (try simp only [Act.put]); (try simp only [List.setIfInBounds_toArray]); (try simp only [List.set_cons_succ]); (try simp only [List.set_cons_zero])
    refine wpAnyH_take (i := 3) (v := .agg (cells1 (2 :: c))) rfl (by kernel_rfl) (by kernel_rfl) (by kernel_rfl) (fun _ _ _ h => h) (yieldsIf_load_mid (by rfl) _ _ rfl gC 0 rfl (cells1 (2 :: c)).toList _ (fun _ h => h.2.2.2.2) Tryz.underlying87 rfl (by rw [Array.length_toList, cells1_size, HC.out]; kernel_rfl)) hS ?_
    (try simp only [List.getElem_toArray]); (try simp only [List.getElem_cons_succ]); (try simp only [List.getElem_cons_zero]); (try simp only [Act.put]); (try simp only [List.setIfInBounds_toArray]); (try simp only [List.set_cons_succ]); (try simp only [List.set_cons_zero])
    refine wpAnyH_take (i := 5) (v := .agg (cells1 (2 :: gs))) rfl (by kernel_rfl) (by kernel_rfl) (by kernel_rfl) (fun _ _ _ h => h) (yieldsIf_load_mid (by rfl) _ _ rfl (w.heap.size + 1) 0 rfl (cells1 (2 :: gs)).toList _ (fun _ h => h.2.2.2.1) Tryz.underlying87 rfl (by rw [Array.length_toList, cells1_size, HG.out]; kernel_rfl)) hS ?_
    (try simp only [List.getElem_toArray]); (try simp only [List.getElem_cons_succ]); (try simp only [List.getElem_cons_zero]); (try simp only [Act.put]); (try simp only [List.setIfInBounds_toArray]); (try simp only [List.set_cons_succ]); (try simp only [List.set_cons_zero])
    refine wpAnyH_take (i := 6) (v := ?vn3) rfl (by kernel_rfl) (by kernel_rfl) (by kernel_rfl) (fun _ _ _ h => h) (Or.inl ⟨by rfl, ?hn3⟩) hS ?rn3
    case hn3 => intro w' hSw; obtain ⟨s0, s1, s2, s3, s4⟩ := hSw; clear s2 s3 s4; go_simp; (try with_reducible rfl)
    (try simp only [List.getElem_toArray]); (try simp only [List.getElem_cons_succ]); (try simp only [List.getElem_cons_zero]); (try simp only [Act.put]); (try simp only [List.setIfInBounds_toArray]); (try simp only [List.set_cons_succ]); (try simp only [List.set_cons_zero])
    refine wpAnyH_take (i := 7) (v := ?vn4) rfl (by kernel_rfl) (by kernel_rfl) (by kernel_rfl) (fun _ _ _ h => h) (Or.inl ⟨by rfl, ?hn4⟩) hS ?rn4
    case hn4 => intro w' hSw; obtain ⟨s0, s1, s2, s3, s4⟩ := hSw; clear s2 s3 s4; go_simp; (try with_reducible rfl)
    (try simp only [List.getElem_toArray]); (try simp only [List.getElem_cons_succ]); (try simp only [List.getElem_cons_zero]); (try simp only [Act.put]); (try simp only [List.setIfInBounds_toArray]); (try simp only [List.set_cons_succ]); (try simp only [List.set_cons_zero])
    refine wpAnyH_take (i := 8) (v := .agg (cells1 (2 :: c))) rfl (by kernel_rfl) (by kernel_rfl) (by kernel_rfl) (fun _ _ _ h => h) (yieldsIf_load_mid (by rfl) _ _ rfl gC 0 rfl (cells1 (2 :: c)).toList _ (fun _ h => h.2.2.2.2) Tryz.underlying87 rfl (by rw [Array.length_toList, cells1_size, HC.out]; kernel_rfl)) hS ?_
    (try simp only [List.getElem_toArray]); (try simp only [List.getElem_cons_succ]); (try simp only [List.getElem_cons_zero]); (try simp only [Act.put]); (try simp only [List.setIfInBounds_toArray]); (try simp only [List.set_cons_succ]); (try simp only [List.set_cons_zero])
    refine wpAnyH_ready (rs := [4, 10, 11]) (by kernel_rfl) (by simp) ?_
    refine AllReadyH.cons (o := _) rfl (fun K hK => ?_) (AllReadyH.cons (o := _) rfl (fun K hK => ?_) (AllReadyH.cons (o := _) rfl (fun K hK => ?_) AllReadyH.nil))
    · skip
      rw [if_pos (by rfl)]
      go_simp
      go_at_call 121
      refine (KA _).mono ?_
      rintro e uu1 ⟨rfl, hb⟩
      have bb1 := b0d.trans (hb.mono b0d.size)
      clear hb
      dsimp only
      refine hK.out _ _ (HS1.out _ bb1) (fun hS => ?_)
      clear hK K
      (try simp only [List.getElem_toArray]); (try simp only [List.getElem_cons_succ]); (try simp only [List.getElem_cons_zero]); (try simp only [Act.put]); (try simp only [List.setIfInBounds_toArray]); (try simp only [List.set_cons_succ]); (try simp only [List.set_cons_zero])
      refine wpAnyH_ready (rs := [9, 10, 11]) (by kernel_rfl) (by simp) ?_
      refine AllReadyH.cons (o := _) rfl (fun K hK => ?_) (AllReadyH.cons (o := _) rfl (fun K hK => ?_) (AllReadyH.cons (o := _) rfl (fun K hK => ?_) AllReadyH.nil))
      · skip
        rw [if_pos (by rfl)]
        go_simp
        go_at_call 121
        refine (KB _).mono ?_
        rintro e uu2 ⟨rfl, hb⟩
        have bb2 := bb1.trans (hb.mono bb1.size)
        clear hb
        dsimp only
        refine hK.out _ _ (HS1.out _ bb2) (fun hS => ?_)
        clear hK K
        (try simp only [List.getElem_toArray]); (try simp only [List.getElem_cons_succ]); (try simp only [List.getElem_cons_zero]); (try simp only [Act.put]); (try simp only [List.setIfInBounds_toArray]); (try simp only [List.set_cons_succ]); (try simp only [List.set_cons_zero])
        refine wpAnyH_ready (rs := [10, 11]) (by kernel_rfl) (by simp) ?_
        refine AllReadyH.cons (o := _) rfl (fun K hK => ?_) (AllReadyH.cons (o := _) rfl (fun K hK => ?_) AllReadyH.nil)
        · skip
          rw [if_pos (by rfl)]
          go_simp
          have A_3 := Blk.new uu2 87 #[.int .i64 0, .int .i64 0, .int .i64 0, .int .i64 0, .int .i64 0, .int .i64 0, .int .i64 0, .int .i64 0, .int .i64 0, .int .i64 0, .int .i64 0, .int .i64 0, .int .i64 0, .int .i64 0, .int .i64 0, .int .i64 0, .int .i64 0]
          have lgA : w3.heap.size ≤ uu2.heap.size := bb2.size
          have bb3 := bb2.alloc bb2.size (.cells #[.int .i64 0, .int .i64 0, .int .i64 0, .int .i64 0, .int .i64 0, .int .i64 0, .int .i64 0, .int .i64 0, .int .i64 0, .int .i64 0, .int .i64 0, .int .i64 0, .int .i64 0, .int .i64 0, .int .i64 0, .int .i64 0, .int .i64 0] 87)
          generalize uu2.alloc (.cells #[.int .i64 0, .int .i64 0, .int .i64 0, .int .i64 0, .int .i64 0, .int .i64 0, .int .i64 0, .int .i64 0, .int .i64 0, .int .i64 0, .int .i64 0, .int .i64 0, .int .i64 0, .int .i64 0, .int .i64 0, .int .i64 0, .int .i64 0] 87) = uu3 at *
          generalize uu2.heap.size = gA at *
          refine hK.out _ _ (HS1.out _ bb3) (fun hS => ?_)
          clear hK K
          (try simp only [List.getElem_toArray]); (try simp only [List.getElem_cons_succ]); (try simp only [List.getElem_cons_zero]); (try simp only [Act.put]); (try simp only [List.setIfInBounds_toArray]); (try simp only [List.set_cons_succ]); (try simp only [List.set_cons_zero])
          refine wpAnyH_ready (rs := [11]) (by kernel_rfl) (by simp) ?_
          refine AllReadyH.cons (o := _) rfl (fun K hK => ?_) AllReadyH.nil
          rw [if_pos (by rfl)]
          go_simp
          have B_4 := Blk.new uu3 87 #[.int .i64 0, .int .i64 0, .int .i64 0, .int .i64 0, .int .i64 0, .int .i64 0, .int .i64 0, .int .i64 0, .int .i64 0, .int .i64 0, .int .i64 0, .int .i64 0, .int .i64 0, .int .i64 0, .int .i64 0, .int .i64 0, .int .i64 0]
          have lgB : w3.heap.size ≤ uu3.heap.size := bb3.size
          have bb4 := bb3.alloc bb3.size (.cells #[.int .i64 0, .int .i64 0, .int .i64 0, .int .i64 0, .int .i64 0, .int .i64 0, .int .i64 0, .int .i64 0, .int .i64 0, .int .i64 0, .int .i64 0, .int .i64 0, .int .i64 0, .int .i64 0, .int .i64 0, .int .i64 0, .int .i64 0] 87)
          have A_4 := A_3.alloc (.cells #[.int .i64 0, .int .i64 0, .int .i64 0, .int .i64 0, .int .i64 0, .int .i64 0, .int .i64 0, .int .i64 0, .int .i64 0, .int .i64 0, .int .i64 0, .int .i64 0, .int .i64 0, .int .i64 0, .int .i64 0, .int .i64 0, .int .i64 0] 87)
          have hab : gA ≠ uu3.heap.size := by have := A_3.lt; omega
          generalize uu3.alloc (.cells #[.int .i64 0, .int .i64 0, .int .i64 0, .int .i64 0, .int .i64 0, .int .i64 0, .int .i64 0, .int .i64 0, .int .i64 0, .int .i64 0, .int .i64 0, .int .i64 0, .int .i64 0, .int .i64 0, .int .i64 0, .int .i64 0, .int .i64 0] 87) = uu4 at *
          generalize uu3.heap.size = gB at *
          refine hK.out _ _ (HS1.out _ bb4) (fun hS => ?_)
          clear hK K
          (try simp only [List.getElem_toArray]); (try simp only [List.getElem_cons_succ]); (try simp only [List.getElem_cons_zero]); (try simp only [Act.put]); (try simp only [List.setIfInBounds_toArray]); (try simp only [List.set_cons_succ]); (try simp only [List.set_cons_zero])
          refine wpAnyH_ready (rs := [12]) (by kernel_rfl) (by simp) ?_
          refine AllReadyH.cons (o := _) rfl (fun K hK => ?_) AllReadyH.nil
          refine step_store_blk rfl 87 _ _ rfl gA (cells1 (2 :: X)) rfl rfl A_4 (by rw [cells1_size, HX.out]; rfl) (by rw [cells1_size, HX.out]; kernel_rfl) (cells1_one _) ?_
          intro v1 A1 O1
          have bq : Below w3.heap.size w3 v1 := bb4.trans (O1.toBelow bb4.size (by simp; omega))
          have B1q := B_4.off O1 (by simp; omega)
          refine hK.out _ _ (HS1.out _ bq) (fun hS => ?_)
          clear hK K
          (try simp only [List.getElem_toArray]); (try simp only [List.getElem_cons_succ]); (try simp only [List.getElem_cons_zero]); (try simp only [Act.put]); (try simp only [List.setIfInBounds_toArray]); (try simp only [List.set_cons_succ]); (try simp only [List.set_cons_zero])
          refine wpAnyH_ready (rs := [13]) (by kernel_rfl) (by simp) ?_
          refine AllReadyH.cons (o := _) rfl (fun K hK => ?_) AllReadyH.nil
          refine step_store_blk rfl 87 _ _ rfl gB (cells1 (2 :: Y)) rfl rfl B1q (by rw [cells1_size, HY.out]; rfl) (by rw [cells1_size, HY.out]; kernel_rfl) (cells1_one _) ?_
          intro v2 B2 O2
          have bz : Below w3.heap.size w3 v2 := bq.trans (O2.toBelow bq.size (by simp; omega))
          have A2 := A1.off O2 (by simp; omega)
          refine hK.out _ _ (HS1.out _ bz) (fun hS => ?_)
          clear hK K
          (try simp only [List.getElem_toArray]); (try simp only [List.getElem_cons_succ]); (try simp only [List.getElem_cons_zero]); (try simp only [Act.put]); (try simp only [List.setIfInBounds_toArray]); (try simp only [List.set_cons_succ]); (try simp only [List.set_cons_zero])
          refine wpAnyH_done (by kernel_rfl) ?_ _
          clear hS
          go_wp2
          go_meet
          case rel => exact ⟨gA, gB, rfl, rfl, A2, B2, by omega, by omega, bz⟩
        · skip
          rw [if_pos (by rfl)]
          go_simp
          have B_6 := Blk.new uu2 87 #[.int .i64 0, .int .i64 0, .int .i64 0, .int .i64 0, .int .i64 0, .int .i64 0, .int .i64 0, .int .i64 0, .int .i64 0, .int .i64 0, .int .i64 0, .int .i64 0, .int .i64 0, .int .i64 0, .int .i64 0, .int .i64 0, .int .i64 0]
          have lgB : w3.heap.size ≤ uu2.heap.size := bb2.size
          have bb6 := bb2.alloc bb2.size (.cells #[.int .i64 0, .int .i64 0, .int .i64 0, .int .i64 0, .int .i64 0, .int .i64 0, .int .i64 0, .int .i64 0, .int .i64 0, .int .i64 0, .int .i64 0, .int .i64 0, .int .i64 0, .int .i64 0, .int .i64 0, .int .i64 0, .int .i64 0] 87)
          generalize uu2.alloc (.cells #[.int .i64 0, .int .i64 0, .int .i64 0, .int .i64 0, .int .i64 0, .int .i64 0, .int .i64 0, .int .i64 0, .int .i64 0, .int .i64 0, .int .i64 0, .int .i64 0, .int .i64 0, .int .i64 0, .int .i64 0, .int .i64 0, .int .i64 0] 87) = uu6 at *
          generalize uu2.heap.size = gB at *
          refine hK.out _ _ (HS1.out _ bb6) (fun hS => ?_)
          clear hK K
          (try simp only [List.getElem_toArray]); (try simp only [List.getElem_cons_succ]); (try simp only [List.getElem_cons_zero]); (try simp only [Act.put]); (try simp only [List.setIfInBounds_toArray]); (try simp only [List.set_cons_succ]); (try simp only [List.set_cons_zero])
          refine wpAnyH_ready (rs := [10]) (by kernel_rfl) (by simp) ?_
          refine AllReadyH.cons (o := _) rfl (fun K hK => ?_) AllReadyH.nil
          rw [if_pos (by rfl)]
          go_simp
          have A_7 := Blk.new uu6 87 #[.int .i64 0, .int .i64 0, .int .i64 0, .int .i64 0, .int .i64 0, .int .i64 0, .int .i64 0, .int .i64 0, .int .i64 0, .int .i64 0, .int .i64 0, .int .i64 0, .int .i64 0, .int .i64 0, .int .i64 0, .int .i64 0, .int .i64 0]
          have lgA : w3.heap.size ≤ uu6.heap.size := bb6.size
          have bb7 := bb6.alloc bb6.size (.cells #[.int .i64 0, .int .i64 0, .int .i64 0, .int .i64 0, .int .i64 0, .int .i64 0, .int .i64 0, .int .i64 0, .int .i64 0, .int .i64 0, .int .i64 0, .int .i64 0, .int .i64 0, .int .i64 0, .int .i64 0, .int .i64 0, .int .i64 0] 87)
          have B_7 := B_6.alloc (.cells #[.int .i64 0, .int .i64 0, .int .i64 0, .int .i64 0, .int .i64 0, .int .i64 0, .int .i64 0, .int .i64 0, .int .i64 0, .int .i64 0, .int .i64 0, .int .i64 0, .int .i64 0, .int .i64 0, .int .i64 0, .int .i64 0, .int .i64 0] 87)
          have hab : uu6.heap.size ≠ gB := by have := B_6.lt; omega
          generalize uu6.alloc (.cells #[.int .i64 0, .int .i64 0, .int .i64 0, .int .i64 0, .int .i64 0, .int .i64 0, .int .i64 0, .int .i64 0, .int .i64 0, .int .i64 0, .int .i64 0, .int .i64 0, .int .i64 0, .int .i64 0, .int .i64 0, .int .i64 0, .int .i64 0] 87) = uu7 at *
          generalize uu6.heap.size = gA at *
          refine hK.out _ _ (HS1.out _ bb7) (fun hS => ?_)
          clear hK K
          (try simp only [List.getElem_toArray]); (try simp only [List.getElem_cons_succ]); (try simp only [List.getElem_cons_zero]); (try simp only [Act.put]); (try simp only [List.setIfInBounds_toArray]); (try simp only [List.set_cons_succ]); (try simp only [List.set_cons_zero])
          refine wpAnyH_ready (rs := [12]) (by kernel_rfl) (by simp) ?_
          refine AllReadyH.cons (o := _) rfl (fun K hK => ?_) AllReadyH.nil
          refine step_store_blk rfl 87 _ _ rfl gA (cells1 (2 :: X)) rfl rfl A_7 (by rw [cells1_size, HX.out]; rfl) (by rw [cells1_size, HX.out]; kernel_rfl) (cells1_one _) ?_
          intro v1 A1 O1
          have bq : Below w3.heap.size w3 v1 := bb7.trans (O1.toBelow bb7.size (by simp; omega))
          have B1q := B_7.off O1 (by simp; omega)
          refine hK.out _ _ (HS1.out _ bq) (fun hS => ?_)
          clear hK K
          (try simp only [List.getElem_toArray]); (try simp only [List.getElem_cons_succ]); (try simp only [List.getElem_cons_zero]); (try simp only [Act.put]); (try simp only [List.setIfInBounds_toArray]); (try simp only [List.set_cons_succ]); (try simp only [List.set_cons_zero])
          refine wpAnyH_ready (rs := [13]) (by kernel_rfl) (by simp) ?_
          refine AllReadyH.cons (o := _) rfl (fun K hK => ?_) AllReadyH.nil
          refine step_store_blk rfl 87 _ _ rfl gB (cells1 (2 :: Y)) rfl rfl B1q (by rw [cells1_size, HY.out]; rfl) (by rw [cells1_size, HY.out]; kernel_rfl) (cells1_one _) ?_
          intro v2 B2 O2
          have bz : Below w3.heap.size w3 v2 := bq.trans (O2.toBelow bq.size (by simp; omega))
          have A2 := A1.off O2 (by simp; omega)
          refine hK.out _ _ (HS1.out _ bz) (fun hS => ?_)
          clear hK K
          (try simp only [List.getElem_toArray]); (try simp only [List.getElem_cons_succ]); (try simp only [List.getElem_cons_zero]); (try simp only [Act.put]); (try simp only [List.setIfInBounds_toArray]); (try simp only [List.set_cons_succ]); (try simp only [List.set_cons_zero])
          refine wpAnyH_done (by kernel_rfl) ?_ _
          clear hS
          go_wp2
          go_meet
          case rel => exact ⟨gA, gB, rfl, rfl, A2, B2, by omega, by omega, bz⟩
      · skip
        rw [if_pos (by rfl)]
        go_simp
        have A_9 := Blk.new uu1 87 #[.int .i64 0, .int .i64 0, .int .i64 0, .int .i64 0, .int .i64 0, .int .i64 0, .int .i64 0, .int .i64 0, .int .i64 0, .int .i64 0, .int .i64 0, .int .i64 0, .int .i64 0, .int .i64 0, .int .i64 0, .int .i64 0, .int .i64 0]
        have lgA : w3.heap.size ≤ uu1.heap.size := bb1.size
        have bb9 := bb1.alloc bb1.size (.cells #[.int .i64 0, .int .i64 0, .int .i64 0, .int .i64 0, .int .i64 0, .int .i64 0, .int .i64 0, .int .i64 0, .int .i64 0, .int .i64 0, .int .i64 0, .int .i64 0, .int .i64 0, .int .i64 0, .int .i64 0, .int .i64 0, .int .i64 0] 87)
        generalize uu1.alloc (.cells #[.int .i64 0, .int .i64 0, .int .i64 0, .int .i64 0, .int .i64 0, .int .i64 0, .int .i64 0, .int .i64 0, .int .i64 0, .int .i64 0, .int .i64 0, .int .i64 0, .int .i64 0, .int .i64 0, .int .i64 0, .int .i64 0, .int .i64 0] 87) = uu9 at *
        generalize uu1.heap.size = gA at *
        refine hK.out _ _ (HS1.out _ bb9) (fun hS => ?_)
        clear hK K
        (try simp only [List.getElem_toArray]); (try simp only [List.getElem_cons_succ]); (try simp only [List.getElem_cons_zero]); (try simp only [Act.put]); (try simp only [List.setIfInBounds_toArray]); (try simp only [List.set_cons_succ]); (try simp only [List.set_cons_zero])
        refine wpAnyH_ready (rs := [9, 11]) (by kernel_rfl) (by simp) ?_
        refine AllReadyH.cons (o := _) rfl (fun K hK => ?_) (AllReadyH.cons (o := _) rfl (fun K hK => ?_) AllReadyH.nil)
        · skip
          rw [if_pos (by rfl)]
          go_simp
          go_at_call 121
          refine (KB _).mono ?_
          rintro e uu10 ⟨rfl, hb⟩
          have bb10 := bb9.trans (hb.mono bb9.size)
          have A_10 := A_9.keep hb
          clear hb
          dsimp only
          refine hK.out _ _ (HS1.out _ bb10) (fun hS => ?_)
          clear hK K
          (try simp only [List.getElem_toArray]); (try simp only [List.getElem_cons_succ]); (try simp only [List.getElem_cons_zero]); (try simp only [Act.put]); (try simp only [List.setIfInBounds_toArray]); (try simp only [List.set_cons_succ]); (try simp only [List.set_cons_zero])
          refine wpAnyH_ready (rs := [11]) (by kernel_rfl) (by simp) ?_
          refine AllReadyH.cons (o := _) rfl (fun K hK => ?_) AllReadyH.nil
          rw [if_pos (by rfl)]
          go_simp
          have B_11 := Blk.new uu10 87 #[.int .i64 0, .int .i64 0, .int .i64 0, .int .i64 0, .int .i64 0, .int .i64 0, .int .i64 0, .int .i64 0, .int .i64 0, .int .i64 0, .int .i64 0, .int .i64 0, .int .i64 0, .int .i64 0, .int .i64 0, .int .i64 0, .int .i64 0]
          have lgB : w3.heap.size ≤ uu10.heap.size := bb10.size
          have bb11 := bb10.alloc bb10.size (.cells #[.int .i64 0, .int .i64 0, .int .i64 0, .int .i64 0, .int .i64 0, .int .i64 0, .int .i64 0, .int .i64 0, .int .i64 0, .int .i64 0, .int .i64 0, .int .i64 0, .int .i64 0, .int .i64 0, .int .i64 0, .int .i64 0, .int .i64 0] 87)
          have A_11 := A_10.alloc (.cells #[.int .i64 0, .int .i64 0, .int .i64 0, .int .i64 0, .int .i64 0, .int .i64 0, .int .i64 0, .int .i64 0, .int .i64 0, .int .i64 0, .int .i64 0, .int .i64 0, .int .i64 0, .int .i64 0, .int .i64 0, .int .i64 0, .int .i64 0] 87)
          have hab : gA ≠ uu10.heap.size := by have := A_10.lt; omega
          generalize uu10.alloc (.cells #[.int .i64 0, .int .i64 0, .int .i64 0, .int .i64 0, .int .i64 0, .int .i64 0, .int .i64 0, .int .i64 0, .int .i64 0, .int .i64 0, .int .i64 0, .int .i64 0, .int .i64 0, .int .i64 0, .int .i64 0, .int .i64 0, .int .i64 0] 87) = uu11 at *
          generalize uu10.heap.size = gB at *
          refine hK.out _ _ (HS1.out _ bb11) (fun hS => ?_)
          clear hK K
          (try simp only [List.getElem_toArray]); (try simp only [List.getElem_cons_succ]); (try simp only [List.getElem_cons_zero]); (try simp only [Act.put]); (try simp only [List.setIfInBounds_toArray]); (try simp only [List.set_cons_succ]); (try simp only [List.set_cons_zero])
          refine wpAnyH_ready (rs := [12]) (by kernel_rfl) (by simp) ?_
          refine AllReadyH.cons (o := _) rfl (fun K hK => ?_) AllReadyH.nil
          refine step_store_blk rfl 87 _ _ rfl gA (cells1 (2 :: X)) rfl rfl A_11 (by rw [cells1_size, HX.out]; rfl) (by rw [cells1_size, HX.out]; kernel_rfl) (cells1_one _) ?_
          intro v1 A1 O1
          have bq : Below w3.heap.size w3 v1 := bb11.trans (O1.toBelow bb11.size (by simp; omega))
          have B1q := B_11.off O1 (by simp; omega)
          refine hK.out _ _ (HS1.out _ bq) (fun hS => ?_)
          clear hK K
          (try simp only [List.getElem_toArray]); (try simp only [List.getElem_cons_succ]); (try simp only [List.getElem_cons_zero]); (try simp only [Act.put]); (try simp only [List.setIfInBounds_toArray]); (try simp only [List.set_cons_succ]); (try simp only [List.set_cons_zero])
          refine wpAnyH_ready (rs := [13]) (by kernel_rfl) (by simp) ?_
          refine AllReadyH.cons (o := _) rfl (fun K hK => ?_) AllReadyH.nil
          refine step_store_blk rfl 87 _ _ rfl gB (cells1 (2 :: Y)) rfl rfl B1q (by rw [cells1_size, HY.out]; rfl) (by rw [cells1_size, HY.out]; kernel_rfl) (cells1_one _) ?_
          intro v2 B2 O2
          have bz : Below w3.heap.size w3 v2 := bq.trans (O2.toBelow bq.size (by simp; omega))
          have A2 := A1.off O2 (by simp; omega)
          refine hK.out _ _ (HS1.out _ bz) (fun hS => ?_)
          clear hK K
          (try simp only [List.getElem_toArray]); (try simp only [List.getElem_cons_succ]); (try simp only [List.getElem_cons_zero]); (try simp only [Act.put]); (try simp only [List.setIfInBounds_toArray]); (try simp only [List.set_cons_succ]); (try simp only [List.set_cons_zero])
          refine wpAnyH_done (by kernel_rfl) ?_ _
          clear hS
          go_wp2
          go_meet
          case rel => exact ⟨gA, gB, rfl, rfl, A2, B2, by omega, by omega, bz⟩
        · skip
          rw [if_pos (by rfl)]
          go_simp
          have B_13 := Blk.new uu9 87 #[.int .i64 0, .int .i64 0, .int .i64 0, .int .i64 0, .int .i64 0, .int .i64 0, .int .i64 0, .int .i64 0, .int .i64 0, .int .i64 0, .int .i64 0, .int .i64 0, .int .i64 0, .int .i64 0, .int .i64 0, .int .i64 0, .int .i64 0]
          have lgB : w3.heap.size ≤ uu9.heap.size := bb9.size
          have bb13 := bb9.alloc bb9.size (.cells #[.int .i64 0, .int .i64 0, .int .i64 0, .int .i64 0, .int .i64 0, .int .i64 0, .int .i64 0, .int .i64 0, .int .i64 0, .int .i64 0, .int .i64 0, .int .i64 0, .int .i64 0, .int .i64 0, .int .i64 0, .int .i64 0, .int .i64 0] 87)
          have A_13 := A_9.alloc (.cells #[.int .i64 0, .int .i64 0, .int .i64 0, .int .i64 0, .int .i64 0, .int .i64 0, .int .i64 0, .int .i64 0, .int .i64 0, .int .i64 0, .int .i64 0, .int .i64 0, .int .i64 0, .int .i64 0, .int .i64 0, .int .i64 0, .int .i64 0] 87)
          have hab : gA ≠ uu9.heap.size := by have := A_9.lt; omega
          generalize uu9.alloc (.cells #[.int .i64 0, .int .i64 0, .int .i64 0, .int .i64 0, .int .i64 0, .int .i64 0, .int .i64 0, .int .i64 0, .int .i64 0, .int .i64 0, .int .i64 0, .int .i64 0, .int .i64 0, .int .i64 0, .int .i64 0, .int .i64 0, .int .i64 0] 87) = uu13 at *
          generalize uu9.heap.size = gB at *
          refine hK.out _ _ (HS1.out _ bb13) (fun hS => ?_)
          clear hK K
          (try simp only [List.getElem_toArray]); (try simp only [List.getElem_cons_succ]); (try simp only [List.getElem_cons_zero]); (try simp only [Act.put]); (try simp only [List.setIfInBounds_toArray]); (try simp only [List.set_cons_succ]); (try simp only [List.set_cons_zero])
          refine wpAnyH_ready (rs := [9]) (by kernel_rfl) (by simp) ?_
          refine AllReadyH.cons (o := _) rfl (fun K hK => ?_) AllReadyH.nil
          rw [if_pos (by rfl)]
          go_simp
          go_at_call 121
          refine (KB _).mono ?_
          rintro e uu14 ⟨rfl, hb⟩
          have bb14 := bb13.trans (hb.mono bb13.size)
          have A_14 := A_13.keep hb
          have B_14 := B_13.keep hb
          clear hb
          dsimp only
          refine hK.out _ _ (HS1.out _ bb14) (fun hS => ?_)
          clear hK K
          (try simp only [List.getElem_toArray]); (try simp only [List.getElem_cons_succ]); (try simp only [List.getElem_cons_zero]); (try simp only [Act.put]); (try simp only [List.setIfInBounds_toArray]); (try simp only [List.set_cons_succ]); (try simp only [List.set_cons_zero])
          refine wpAnyH_ready (rs := [12]) (by kernel_rfl) (by simp) ?_
          refine AllReadyH.cons (o := _) rfl (fun K hK => ?_) AllReadyH.nil
          refine step_store_blk rfl 87 _ _ rfl gA (cells1 (2 :: X)) rfl rfl A_14 (by rw [cells1_size, HX.out]; rfl) (by rw [cells1_size, HX.out]; kernel_rfl) (cells1_one _) ?_
          intro v1 A1 O1
          have bq : Below w3.heap.size w3 v1 := bb14.trans (O1.toBelow bb14.size (by simp; omega))
          have B1q := B_14.off O1 (by simp; omega)
          refine hK.out _ _ (HS1.out _ bq) (fun hS => ?_)
          clear hK K
          (try simp only [List.getElem_toArray]); (try simp only [List.getElem_cons_succ]); (try simp only [List.getElem_cons_zero]); (try simp only [Act.put]); (try simp only [List.setIfInBounds_toArray]); (try simp only [List.set_cons_succ]); (try simp only [List.set_cons_zero])
          refine wpAnyH_ready (rs := [13]) (by kernel_rfl) (by simp) ?_
          refine AllReadyH.cons (o := _) rfl (fun K hK => ?_) AllReadyH.nil
          refine step_store_blk rfl 87 _ _ rfl gB (cells1 (2 :: Y)) rfl rfl B1q (by rw [cells1_size, HY.out]; rfl) (by rw [cells1_size, HY.out]; kernel_rfl) (cells1_one _) ?_
          intro v2 B2 O2
          have bz : Below w3.heap.size w3 v2 := bq.trans (O2.toBelow bq.size (by simp; omega))
          have A2 := A1.off O2 (by simp; omega)
          refine hK.out _ _ (HS1.out _ bz) (fun hS => ?_)
          clear hK K
          (try simp only [List.getElem_toArray]); (try simp only [List.getElem_cons_succ]); (try simp only [List.getElem_cons_zero]); (try simp only [Act.put]); (try simp only [List.setIfInBounds_toArray]); (try simp only [List.set_cons_succ]); (try simp only [List.set_cons_zero])
          refine wpAnyH_done (by kernel_rfl) ?_ _
          clear hS
          go_wp2
          go_meet
          case rel => exact ⟨gA, gB, rfl, rfl, A2, B2, by omega, by omega, bz⟩
      · skip
        rw [if_pos (by rfl)]
        go_simp
        have B_16 := Blk.new uu1 87 #[.int .i64 0, .int .i64 0, .int .i64 0, .int .i64 0, .int .i64 0, .int .i64 0, .int .i64 0, .int .i64 0, .int .i64 0, .int .i64 0, .int .i64 0, .int .i64 0, .int .i64 0, .int .i64 0, .int .i64 0, .int .i64 0, .int .i64 0]
        have lgB : w3.heap.size ≤ uu1.heap.size := bb1.size
        have bb16 := bb1.alloc bb1.size (.cells #[.int .i64 0, .int .i64 0, .int .i64 0, .int .i64 0, .int .i64 0, .int .i64 0, .int .i64 0, .int .i64 0, .int .i64 0, .int .i64 0, .int .i64 0, .int .i64 0, .int .i64 0, .int .i64 0, .int .i64 0, .int .i64 0, .int .i64 0] 87)
        generalize uu1.alloc (.cells #[.int .i64 0, .int .i64 0, .int .i64 0, .int .i64 0, .int .i64 0, .int .i64 0, .int .i64 0, .int .i64 0, .int .i64 0, .int .i64 0, .int .i64 0, .int .i64 0, .int .i64 0, .int .i64 0, .int .i64 0, .int .i64 0, .int .i64 0] 87) = uu16 at *
        generalize uu1.heap.size = gB at *
        refine hK.out _ _ (HS1.out _ bb16) (fun hS => ?_)
        clear hK K
        (try simp only [List.getElem_toArray]); (try simp only [List.getElem_cons_succ]); (try simp only [List.getElem_cons_zero]); (try simp only [Act.put]); (try simp only [List.setIfInBounds_toArray]); (try simp only [List.set_cons_succ]); (try simp only [List.set_cons_zero])
        refine wpAnyH_ready (rs := [9, 10]) (by kernel_rfl) (by simp) ?_
        refine AllReadyH.cons (o := _) rfl (fun K hK => ?_) (AllReadyH.cons (o := _) rfl (fun K hK => ?_) AllReadyH.nil)
        · skip
          rw [if_pos (by rfl)]
          go_simp
          go_at_call 121
          refine (KB _).mono ?_
          rintro e uu17 ⟨rfl, hb⟩
          have bb17 := bb16.trans (hb.mono bb16.size)
          have B_17 := B_16.keep hb
          clear hb
          dsimp only
          refine hK.out _ _ (HS1.out _ bb17) (fun hS => ?_)
          clear hK K
          (try simp only [List.getElem_toArray]); (try simp only [List.getElem_cons_succ]); (try simp only [List.getElem_cons_zero]); (try simp only [Act.put]); (try simp only [List.setIfInBounds_toArray]); (try simp only [List.set_cons_succ]); (try simp only [List.set_cons_zero])
          refine wpAnyH_ready (rs := [10]) (by kernel_rfl) (by simp) ?_
          refine AllReadyH.cons (o := _) rfl (fun K hK => ?_) AllReadyH.nil
          rw [if_pos (by rfl)]
          go_simp
          have A_18 := Blk.new uu17 87 #[.int .i64 0, .int .i64 0, .int .i64 0, .int .i64 0, .int .i64 0, .int .i64 0, .int .i64 0, .int .i64 0, .int .i64 0, .int .i64 0, .int .i64 0, .int .i64 0, .int .i64 0, .int .i64 0, .int .i64 0, .int .i64 0, .int .i64 0]
          have lgA : w3.heap.size ≤ uu17.heap.size := bb17.size
          have bb18 := bb17.alloc bb17.size (.cells #[.int .i64 0, .int .i64 0, .int .i64 0, .int .i64 0, .int .i64 0, .int .i64 0, .int .i64 0, .int .i64 0, .int .i64 0, .int .i64 0, .int .i64 0, .int .i64 0, .int .i64 0, .int .i64 0, .int .i64 0, .int .i64 0, .int .i64 0] 87)
          have B_18 := B_17.alloc (.cells #[.int .i64 0, .int .i64 0, .int .i64 0, .int .i64 0, .int .i64 0, .int .i64 0, .int .i64 0, .int .i64 0, .int .i64 0, .int .i64 0, .int .i64 0, .int .i64 0, .int .i64 0, .int .i64 0, .int .i64 0, .int .i64 0, .int .i64 0] 87)
          have hab : uu17.heap.size ≠ gB := by have := B_17.lt; omega
          generalize uu17.alloc (.cells #[.int .i64 0, .int .i64 0, .int .i64 0, .int .i64 0, .int .i64 0, .int .i64 0, .int .i64 0, .int .i64 0, .int .i64 0, .int .i64 0, .int .i64 0, .int .i64 0, .int .i64 0, .int .i64 0, .int .i64 0, .int .i64 0, .int .i64 0] 87) = uu18 at *
          generalize uu17.heap.size = gA at *
          refine hK.out _ _ (HS1.out _ bb18) (fun hS => ?_)
          clear hK K
          (try simp only [List.getElem_toArray]); (try simp only [List.getElem_cons_succ]); (try simp only [List.getElem_cons_zero]); (try simp only [Act.put]); (try simp only [List.setIfInBounds_toArray]); (try simp only [List.set_cons_succ]); (try simp only [List.set_cons_zero])
          refine wpAnyH_ready (rs := [12]) (by kernel_rfl) (by simp) ?_
          refine AllReadyH.cons (o := _) rfl (fun K hK => ?_) AllReadyH.nil
          refine step_store_blk rfl 87 _ _ rfl gA (cells1 (2 :: X)) rfl rfl A_18 (by rw [cells1_size, HX.out]; rfl) (by rw [cells1_size, HX.out]; kernel_rfl) (cells1_one _) ?_
          intro v1 A1 O1
          have bq : Below w3.heap.size w3 v1 := bb18.trans (O1.toBelow bb18.size (by simp; omega))
          have B1q := B_18.off O1 (by simp; omega)
          refine hK.out _ _ (HS1.out _ bq) (fun hS => ?_)
          clear hK K
          (try simp only [List.getElem_toArray]); (try simp only [List.getElem_cons_succ]); (try simp only [List.getElem_cons_zero]); (try simp only [Act.put]); (try simp only [List.setIfInBounds_toArray]); (try simp only [List.set_cons_succ]); (try simp only [List.set_cons_zero])
          refine wpAnyH_ready (rs := [13]) (by kernel_rfl) (by simp) ?_
          refine AllReadyH.cons (o := _) rfl (fun K hK => ?_) AllReadyH.nil
          refine step_store_blk rfl 87 _ _ rfl gB (cells1 (2 :: Y)) rfl rfl B1q (by rw [cells1_size, HY.out]; rfl) (by rw [cells1_size, HY.out]; kernel_rfl) (cells1_one _) ?_
          intro v2 B2 O2
          have bz : Below w3.heap.size w3 v2 := bq.trans (O2.toBelow bq.size (by simp; omega))
          have A2 := A1.off O2 (by simp; omega)
          refine hK.out _ _ (HS1.out _ bz) (fun hS => ?_)
          clear hK K
          (try simp only [List.getElem_toArray]); (try simp only [List.getElem_cons_succ]); (try simp only [List.getElem_cons_zero]); (try simp only [Act.put]); (try simp only [List.setIfInBounds_toArray]); (try simp only [List.set_cons_succ]); (try simp only [List.set_cons_zero])
          refine wpAnyH_done (by kernel_rfl) ?_ _
          clear hS
          go_wp2
          go_meet
          case rel => exact ⟨gA, gB, rfl, rfl, A2, B2, by omega, by omega, bz⟩
        · skip
          rw [if_pos (by rfl)]
          go_simp
          have A_20 := Blk.new uu16 87 #[.int .i64 0, .int .i64 0, .int .i64 0, .int .i64 0, .int .i64 0, .int .i64 0, .int .i64 0, .int .i64 0, .int .i64 0, .int .i64 0, .int .i64 0, .int .i64 0, .int .i64 0, .int .i64 0, .int .i64 0, .int .i64 0, .int .i64 0]
          have lgA : w3.heap.size ≤ uu16.heap.size := bb16.size
          have bb20 := bb16.alloc bb16.size (.cells #[.int .i64 0, .int .i64 0, .int .i64 0, .int .i64 0, .int .i64 0, .int .i64 0, .int .i64 0, .int .i64 0, .int .i64 0, .int .i64 0, .int .i64 0, .int .i64 0, .int .i64 0, .int .i64 0, .int .i64 0, .int .i64 0, .int .i64 0] 87)
          have B_20 := B_16.alloc (.cells #[.int .i64 0, .int .i64 0, .int .i64 0, .int .i64 0, .int .i64 0, .int .i64 0, .int .i64 0, .int .i64 0, .int .i64 0, .int .i64 0, .int .i64 0, .int .i64 0, .int .i64 0, .int .i64 0, .int .i64 0, .int .i64 0, .int .i64 0] 87)
          have hab : uu16.heap.size ≠ gB := by have := B_16.lt; omega
          generalize uu16.alloc (.cells #[.int .i64 0, .int .i64 0, .int .i64 0, .int .i64 0, .int .i64 0, .int .i64 0, .int .i64 0, .int .i64 0, .int .i64 0, .int .i64 0, .int .i64 0, .int .i64 0, .int .i64 0, .int .i64 0, .int .i64 0, .int .i64 0, .int .i64 0] 87) = uu20 at *
          generalize uu16.heap.size = gA at *
          refine hK.out _ _ (HS1.out _ bb20) (fun hS => ?_)
          clear hK K
          (try simp only [List.getElem_toArray]); (try simp only [List.getElem_cons_succ]); (try simp only [List.getElem_cons_zero]); (try simp only [Act.put]); (try simp only [List.setIfInBounds_toArray]); (try simp only [List.set_cons_succ]); (try simp only [List.set_cons_zero])
          refine wpAnyH_ready (rs := [9]) (by kernel_rfl) (by simp) ?_
          refine AllReadyH.cons (o := _) rfl (fun K hK => ?_) AllReadyH.nil
          rw [if_pos (by rfl)]
          go_simp
          go_at_call 121
          refine (KB _).mono ?_
          rintro e uu21 ⟨rfl, hb⟩
          have bb21 := bb20.trans (hb.mono bb20.size)
          have A_21 := A_20.keep hb
          have B_21 := B_20.keep hb
          clear hb
          dsimp only
          refine hK.out _ _ (HS1.out _ bb21) (fun hS => ?_)
          clear hK K
          (try simp only [List.getElem_toArray]); (try simp only [List.getElem_cons_succ]); (try simp only [List.getElem_cons_zero]); (try simp only [Act.put]); (try simp only [List.setIfInBounds_toArray]); (try simp only [List.set_cons_succ]); (try simp only [List.set_cons_zero])
          refine wpAnyH_ready (rs := [12]) (by kernel_rfl) (by simp) ?_
          refine AllReadyH.cons (o := _) rfl (fun K hK => ?_) AllReadyH.nil
          refine step_store_blk rfl 87 _ _ rfl gA (cells1 (2 :: X)) rfl rfl A_21 (by rw [cells1_size, HX.out]; rfl) (by rw [cells1_size, HX.out]; kernel_rfl) (cells1_one _) ?_
          intro v1 A1 O1
          have bq : Below w3.heap.size w3 v1 := bb21.trans (O1.toBelow bb21.size (by simp; omega))
          have B1q := B_21.off O1 (by simp; omega)
          refine hK.out _ _ (HS1.out _ bq) (fun hS => ?_)
          clear hK K
          (try simp only [List.getElem_toArray]); (try simp only [List.getElem_cons_succ]); (try simp only [List.getElem_cons_zero]); (try simp only [Act.put]); (try simp only [List.setIfInBounds_toArray]); (try simp only [List.set_cons_succ]); (try simp only [List.set_cons_zero])
          refine wpAnyH_ready (rs := [13]) (by kernel_rfl) (by simp) ?_
          refine AllReadyH.cons (o := _) rfl (fun K hK => ?_) AllReadyH.nil
          refine step_store_blk rfl 87 _ _ rfl gB (cells1 (2 :: Y)) rfl rfl B1q (by rw [cells1_size, HY.out]; rfl) (by rw [cells1_size, HY.out]; kernel_rfl) (cells1_one _) ?_
          intro v2 B2 O2
          have bz : Below w3.heap.size w3 v2 := bq.trans (O2.toBelow bq.size (by simp; omega))
          have A2 := A1.off O2 (by simp; omega)
          refine hK.out _ _ (HS1.out _ bz) (fun hS => ?_)
          clear hK K
          (try simp only [List.getElem_toArray]); (try simp only [List.getElem_cons_succ]); (try simp only [List.getElem_cons_zero]); (try simp only [Act.put]); (try simp only [List.setIfInBounds_toArray]); (try simp only [List.set_cons_succ]); (try simp only [List.set_cons_zero])
          refine wpAnyH_done (by kernel_rfl) ?_ _
          clear hS
          go_wp2
          go_meet
          case rel => exact ⟨gA, gB, rfl, rfl, A2, B2, by omega, by omega, bz⟩
    · skip
      rw [if_pos (by rfl)]
      go_simp
      have A_23 := Blk.new u0 87 #[.int .i64 0, .int .i64 0, .int .i64 0, .int .i64 0, .int .i64 0, .int .i64 0, .int .i64 0, .int .i64 0, .int .i64 0, .int .i64 0, .int .i64 0, .int .i64 0, .int .i64 0, .int .i64 0, .int .i64 0, .int .i64 0, .int .i64 0]
      have lgA : w3.heap.size ≤ u0.heap.size := b0d.size
      have bb23 := b0d.alloc b0d.size (.cells #[.int .i64 0, .int .i64 0, .int .i64 0, .int .i64 0, .int .i64 0, .int .i64 0, .int .i64 0, .int .i64 0, .int .i64 0, .int .i64 0, .int .i64 0, .int .i64 0, .int .i64 0, .int .i64 0, .int .i64 0, .int .i64 0, .int .i64 0] 87)
      generalize u0.alloc (.cells #[.int .i64 0, .int .i64 0, .int .i64 0, .int .i64 0, .int .i64 0, .int .i64 0, .int .i64 0, .int .i64 0, .int .i64 0, .int .i64 0, .int .i64 0, .int .i64 0, .int .i64 0, .int .i64 0, .int .i64 0, .int .i64 0, .int .i64 0] 87) = uu23 at *
      generalize u0.heap.size = gA at *
      refine hK.out _ _ (HS1.out _ bb23) (fun hS => ?_)
      clear hK K
      (try simp only [List.getElem_toArray]); (try simp only [List.getElem_cons_succ]); (try simp only [List.getElem_cons_zero]); (try simp only [Act.put]); (try simp only [List.setIfInBounds_toArray]); (try simp only [List.set_cons_succ]); (try simp only [List.set_cons_zero])
      refine wpAnyH_ready (rs := [4, 11]) (by kernel_rfl) (by simp) ?_
      refine AllReadyH.cons (o := _) rfl (fun K hK => ?_) (AllReadyH.cons (o := _) rfl (fun K hK => ?_) AllReadyH.nil)
      · skip
        rw [if_pos (by rfl)]
        go_simp
        go_at_call 121
        refine (KA _).mono ?_
        rintro e uu24 ⟨rfl, hb⟩
        have bb24 := bb23.trans (hb.mono bb23.size)
        have A_24 := A_23.keep hb
        clear hb
        dsimp only
        refine hK.out _ _ (HS1.out _ bb24) (fun hS => ?_)
        clear hK K
        (try simp only [List.getElem_toArray]); (try simp only [List.getElem_cons_succ]); (try simp only [List.getElem_cons_zero]); (try simp only [Act.put]); (try simp only [List.setIfInBounds_toArray]); (try simp only [List.set_cons_succ]); (try simp only [List.set_cons_zero])
        refine wpAnyH_ready (rs := [9, 11]) (by kernel_rfl) (by simp) ?_
        refine AllReadyH.cons (o := _) rfl (fun K hK => ?_) (AllReadyH.cons (o := _) rfl (fun K hK => ?_) AllReadyH.nil)
        · skip
          rw [if_pos (by rfl)]
          go_simp
          go_at_call 121
          refine (KB _).mono ?_
          rintro e uu25 ⟨rfl, hb⟩
          have bb25 := bb24.trans (hb.mono bb24.size)
          have A_25 := A_24.keep hb
          clear hb
          dsimp only
          refine hK.out _ _ (HS1.out _ bb25) (fun hS => ?_)
          clear hK K
          (try simp only [List.getElem_toArray]); (try simp only [List.getElem_cons_succ]); (try simp only [List.getElem_cons_zero]); (try simp only [Act.put]); (try simp only [List.setIfInBounds_toArray]); (try simp only [List.set_cons_succ]); (try simp only [List.set_cons_zero])
          refine wpAnyH_ready (rs := [11]) (by kernel_rfl) (by simp) ?_
          refine AllReadyH.cons (o := _) rfl (fun K hK => ?_) AllReadyH.nil
          rw [if_pos (by rfl)]
          go_simp
          have B_26 := Blk.new uu25 87 #[.int .i64 0, .int .i64 0, .int .i64 0, .int .i64 0, .int .i64 0, .int .i64 0, .int .i64 0, .int .i64 0, .int .i64 0, .int .i64 0, .int .i64 0, .int .i64 0, .int .i64 0, .int .i64 0, .int .i64 0, .int .i64 0, .int .i64 0]
          have lgB : w3.heap.size ≤ uu25.heap.size := bb25.size
          have bb26 := bb25.alloc bb25.size (.cells #[.int .i64 0, .int .i64 0, .int .i64 0, .int .i64 0, .int .i64 0, .int .i64 0, .int .i64 0, .int .i64 0, .int .i64 0, .int .i64 0, .int .i64 0, .int .i64 0, .int .i64 0, .int .i64 0, .int .i64 0, .int .i64 0, .int .i64 0] 87)
          have A_26 := A_25.alloc (.cells #[.int .i64 0, .int .i64 0, .int .i64 0, .int .i64 0, .int .i64 0, .int .i64 0, .int .i64 0, .int .i64 0, .int .i64 0, .int .i64 0, .int .i64 0, .int .i64 0, .int .i64 0, .int .i64 0, .int .i64 0, .int .i64 0, .int .i64 0] 87)
          have hab : gA ≠ uu25.heap.size := by have := A_25.lt; omega
          generalize uu25.alloc (.cells #[.int .i64 0, .int .i64 0, .int .i64 0, .int .i64 0, .int .i64 0, .int .i64 0, .int .i64 0, .int .i64 0, .int .i64 0, .int .i64 0, .int .i64 0, .int .i64 0, .int .i64 0, .int .i64 0, .int .i64 0, .int .i64 0, .int .i64 0] 87) = uu26 at *
          generalize uu25.heap.size = gB at *
          refine hK.out _ _ (HS1.out _ bb26) (fun hS => ?_)
          clear hK K
          (try simp only [List.getElem_toArray]); (try simp only [List.getElem_cons_succ]); (try simp only [List.getElem_cons_zero]); (try simp only [Act.put]); (try simp only [List.setIfInBounds_toArray]); (try simp only [List.set_cons_succ]); (try simp only [List.set_cons_zero])
          refine wpAnyH_ready (rs := [12]) (by kernel_rfl) (by simp) ?_
          refine AllReadyH.cons (o := _) rfl (fun K hK => ?_) AllReadyH.nil
          refine step_store_blk rfl 87 _ _ rfl gA (cells1 (2 :: X)) rfl rfl A_26 (by rw [cells1_size, HX.out]; rfl) (by rw [cells1_size, HX.out]; kernel_rfl) (cells1_one _) ?_
          intro v1 A1 O1
          have bq : Below w3.heap.size w3 v1 := bb26.trans (O1.toBelow bb26.size (by simp; omega))
          have B1q := B_26.off O1 (by simp; omega)
          refine hK.out _ _ (HS1.out _ bq) (fun hS => ?_)
          clear hK K
          (try simp only [List.getElem_toArray]); (try simp only [List.getElem_cons_succ]); (try simp only [List.getElem_cons_zero]); (try simp only [Act.put]); (try simp only [List.setIfInBounds_toArray]); (try simp only [List.set_cons_succ]); (try simp only [List.set_cons_zero])
          refine wpAnyH_ready (rs := [13]) (by kernel_rfl) (by simp) ?_
          refine AllReadyH.cons (o := _) rfl (fun K hK => ?_) AllReadyH.nil
          refine step_store_blk rfl 87 _ _ rfl gB (cells1 (2 :: Y)) rfl rfl B1q (by rw [cells1_size, HY.out]; rfl) (by rw [cells1_size, HY.out]; kernel_rfl) (cells1_one _) ?_
          intro v2 B2 O2
          have bz : Below w3.heap.size w3 v2 := bq.trans (O2.toBelow bq.size (by simp; omega))
          have A2 := A1.off O2 (by simp; omega)
          refine hK.out _ _ (HS1.out _ bz) (fun hS => ?_)
          clear hK K
          (try simp only [List.getElem_toArray]); (try simp only [List.getElem_cons_succ]); (try simp only [List.getElem_cons_zero]); (try simp only [Act.put]); (try simp only [List.setIfInBounds_toArray]); (try simp only [List.set_cons_succ]); (try simp only [List.set_cons_zero])
          refine wpAnyH_done (by kernel_rfl) ?_ _
          clear hS
          go_wp2
          go_meet
          case rel => exact ⟨gA, gB, rfl, rfl, A2, B2, by omega, by omega, bz⟩
        · skip
          rw [if_pos (by rfl)]
          go_simp
          have B_28 := Blk.new uu24 87 #[.int .i64 0, .int .i64 0, .int .i64 0, .int .i64 0, .int .i64 0, .int .i64 0, .int .i64 0, .int .i64 0, .int .i64 0, .int .i64 0, .int .i64 0, .int .i64 0, .int .i64 0, .int .i64 0, .int .i64 0, .int .i64 0, .int .i64 0]
          have lgB : w3.heap.size ≤ uu24.heap.size := bb24.size
          have bb28 := bb24.alloc bb24.size (.cells #[.int .i64 0, .int .i64 0, .int .i64 0, .int .i64 0, .int .i64 0, .int .i64 0, .int .i64 0, .int .i64 0, .int .i64 0, .int .i64 0, .int .i64 0, .int .i64 0, .int .i64 0, .int .i64 0, .int .i64 0, .int .i64 0, .int .i64 0] 87)
          have A_28 := A_24.alloc (.cells #[.int .i64 0, .int .i64 0, .int .i64 0, .int .i64 0, .int .i64 0, .int .i64 0, .int .i64 0, .int .i64 0, .int .i64 0, .int .i64 0, .int .i64 0, .int .i64 0, .int .i64 0, .int .i64 0, .int .i64 0, .int .i64 0, .int .i64 0] 87)
          have hab : gA ≠ uu24.heap.size := by have := A_24.lt; omega
          generalize uu24.alloc (.cells #[.int .i64 0, .int .i64 0, .int .i64 0, .int .i64 0, .int .i64 0, .int .i64 0, .int .i64 0, .int .i64 0, .int .i64 0, .int .i64 0, .int .i64 0, .int .i64 0, .int .i64 0, .int .i64 0, .int .i64 0, .int .i64 0, .int .i64 0] 87) = uu28 at *
          generalize uu24.heap.size = gB at *
          refine hK.out _ _ (HS1.out _ bb28) (fun hS => ?_)
          clear hK K
          (try simp only [List.getElem_toArray]); (try simp only [List.getElem_cons_succ]); (try simp only [List.getElem_cons_zero]); (try simp only [Act.put]); (try simp only [List.setIfInBounds_toArray]); (try simp only [List.set_cons_succ]); (try simp only [List.set_cons_zero])
          refine wpAnyH_ready (rs := [9]) (by kernel_rfl) (by simp) ?_
          refine AllReadyH.cons (o := _) rfl (fun K hK => ?_) AllReadyH.nil
          rw [if_pos (by rfl)]
          go_simp
          go_at_call 121
          refine (KB _).mono ?_
          rintro e uu29 ⟨rfl, hb⟩
          have bb29 := bb28.trans (hb.mono bb28.size)
          have A_29 := A_28.keep hb
          have B_29 := B_28.keep hb
          clear hb
          dsimp only
          refine hK.out _ _ (HS1.out _ bb29) (fun hS => ?_)
          clear hK K
          (try simp only [List.getElem_toArray]); (try simp only [List.getElem_cons_succ]); (try simp only [List.getElem_cons_zero]); (try simp only [Act.put]); (try simp only [List.setIfInBounds_toArray]); (try simp only [List.set_cons_succ]); (try simp only [List.set_cons_zero])
          refine wpAnyH_ready (rs := [12]) (by kernel_rfl) (by simp) ?_
          refine AllReadyH.cons (o := _) rfl (fun K hK => ?_) AllReadyH.nil
          refine step_store_blk rfl 87 _ _ rfl gA (cells1 (2 :: X)) rfl rfl A_29 (by rw [cells1_size, HX.out]; rfl) (by rw [cells1_size, HX.out]; kernel_rfl) (cells1_one _) ?_
          intro v1 A1 O1
          have bq : Below w3.heap.size w3 v1 := bb29.trans (O1.toBelow bb29.size (by simp; omega))
          have B1q := B_29.off O1 (by simp; omega)
          refine hK.out _ _ (HS1.out _ bq) (fun hS => ?_)
          clear hK K
          (try simp only [List.getElem_toArray]); (try simp only [List.getElem_cons_succ]); (try simp only [List.getElem_cons_zero]); (try simp only [Act.put]); (try simp only [List.setIfInBounds_toArray]); (try simp only [List.set_cons_succ]); (try simp only [List.set_cons_zero])
          refine wpAnyH_ready (rs := [13]) (by kernel_rfl) (by simp) ?_
          refine AllReadyH.cons (o := _) rfl (fun K hK => ?_) AllReadyH.nil
          refine step_store_blk rfl 87 _ _ rfl gB (cells1 (2 :: Y)) rfl rfl B1q (by rw [cells1_size, HY.out]; rfl) (by rw [cells1_size, HY.out]; kernel_rfl) (cells1_one _) ?_
          intro v2 B2 O2
          have bz : Below w3.heap.size w3 v2 := bq.trans (O2.toBelow bq.size (by simp; omega))
          have A2 := A1.off O2 (by simp; omega)
          refine hK.out _ _ (HS1.out _ bz) (fun hS => ?_)
          clear hK K
          (try simp only [List.getElem_toArray]); (try simp only [List.getElem_cons_succ]); (try simp only [List.getElem_cons_zero]); (try simp only [Act.put]); (try simp only [List.setIfInBounds_toArray]); (try simp only [List.set_cons_succ]); (try simp only [List.set_cons_zero])
          refine wpAnyH_done (by kernel_rfl) ?_ _
          clear hS
          go_wp2
          go_meet
          case rel => exact ⟨gA, gB, rfl, rfl, A2, B2, by omega, by omega, bz⟩
      · skip
        rw [if_pos (by rfl)]
        go_simp
        have B_31 := Blk.new uu23 87 #[.int .i64 0, .int .i64 0, .int .i64 0, .int .i64 0, .int .i64 0, .int .i64 0, .int .i64 0, .int .i64 0, .int .i64 0, .int .i64 0, .int .i64 0, .int .i64 0, .int .i64 0, .int .i64 0, .int .i64 0, .int .i64 0, .int .i64 0]
        have lgB : w3.heap.size ≤ uu23.heap.size := bb23.size
        have bb31 := bb23.alloc bb23.size (.cells #[.int .i64 0, .int .i64 0, .int .i64 0, .int .i64 0, .int .i64 0, .int .i64 0, .int .i64 0, .int .i64 0, .int .i64 0, .int .i64 0, .int .i64 0, .int .i64 0, .int .i64 0, .int .i64 0, .int .i64 0, .int .i64 0, .int .i64 0] 87)
        have A_31 := A_23.alloc (.cells #[.int .i64 0, .int .i64 0, .int .i64 0, .int .i64 0, .int .i64 0, .int .i64 0, .int .i64 0, .int .i64 0, .int .i64 0, .int .i64 0, .int .i64 0, .int .i64 0, .int .i64 0, .int .i64 0, .int .i64 0, .int .i64 0, .int .i64 0] 87)
        have hab : gA ≠ uu23.heap.size := by have := A_23.lt; omega
        generalize uu23.alloc (.cells #[.int .i64 0, .int .i64 0, .int .i64 0, .int .i64 0, .int .i64 0, .int .i64 0, .int .i64 0, .int .i64 0, .int .i64 0, .int .i64 0, .int .i64 0, .int .i64 0, .int .i64 0, .int .i64 0, .int .i64 0, .int .i64 0, .int .i64 0] 87) = uu31 at *
        generalize uu23.heap.size = gB at *
        refine hK.out _ _ (HS1.out _ bb31) (fun hS => ?_)
        clear hK K
        (try simp only [List.getElem_toArray]); (try simp only [List.getElem_cons_succ]); (try simp only [List.getElem_cons_zero]); (try simp only [Act.put]); (try simp only [List.setIfInBounds_toArray]); (try simp only [List.set_cons_succ]); (try simp only [List.set_cons_zero])
        refine wpAnyH_ready (rs := [4]) (by kernel_rfl) (by simp) ?_
        refine AllReadyH.cons (o := _) rfl (fun K hK => ?_) AllReadyH.nil
        rw [if_pos (by rfl)]
        go_simp
        go_at_call 121
        refine (KA _).mono ?_
        rintro e uu32 ⟨rfl, hb⟩
        have bb32 := bb31.trans (hb.mono bb31.size)
        have A_32 := A_31.keep hb
        have B_32 := B_31.keep hb
        clear hb
        dsimp only
        refine hK.out _ _ (HS1.out _ bb32) (fun hS => ?_)
        clear hK K
        (try simp only [List.getElem_toArray]); (try simp only [List.getElem_cons_succ]); (try simp only [List.getElem_cons_zero]); (try simp only [Act.put]); (try simp only [List.setIfInBounds_toArray]); (try simp only [List.set_cons_succ]); (try simp only [List.set_cons_zero])
        refine wpAnyH_ready (rs := [9]) (by kernel_rfl) (by simp) ?_
        refine AllReadyH.cons (o := _) rfl (fun K hK => ?_) AllReadyH.nil
        rw [if_pos (by rfl)]
        go_simp
        go_at_call 121
        refine (KB _).mono ?_
        rintro e uu33 ⟨rfl, hb⟩
        have bb33 := bb32.trans (hb.mono bb32.size)
        have A_33 := A_32.keep hb
        have B_33 := B_32.keep hb
        clear hb
        dsimp only
        refine hK.out _ _ (HS1.out _ bb33) (fun hS => ?_)
        clear hK K
        (try simp only [List.getElem_toArray]); (try simp only [List.getElem_cons_succ]); (try simp only [List.getElem_cons_zero]); (try simp only [Act.put]); (try simp only [List.setIfInBounds_toArray]); (try simp only [List.set_cons_succ]); (try simp only [List.set_cons_zero])
        refine wpAnyH_ready (rs := [12]) (by kernel_rfl) (by simp) ?_
        refine AllReadyH.cons (o := _) rfl (fun K hK => ?_) AllReadyH.nil
        refine step_store_blk rfl 87 _ _ rfl gA (cells1 (2 :: X)) rfl rfl A_33 (by rw [cells1_size, HX.out]; rfl) (by rw [cells1_size, HX.out]; kernel_rfl) (cells1_one _) ?_
        intro v1 A1 O1
        have bq : Below w3.heap.size w3 v1 := bb33.trans (O1.toBelow bb33.size (by simp; omega))
        have B1q := B_33.off O1 (by simp; omega)
        refine hK.out _ _ (HS1.out _ bq) (fun hS => ?_)
        clear hK K
        (try simp only [List.getElem_toArray]); (try simp only [List.getElem_cons_succ]); (try simp only [List.getElem_cons_zero]); (try simp only [Act.put]); (try simp only [List.setIfInBounds_toArray]); (try simp only [List.set_cons_succ]); (try simp only [List.set_cons_zero])
        refine wpAnyH_ready (rs := [13]) (by kernel_rfl) (by simp) ?_
        refine AllReadyH.cons (o := _) rfl (fun K hK => ?_) AllReadyH.nil
        refine step_store_blk rfl 87 _ _ rfl gB (cells1 (2 :: Y)) rfl rfl B1q (by rw [cells1_size, HY.out]; rfl) (by rw [cells1_size, HY.out]; kernel_rfl) (cells1_one _) ?_
        intro v2 B2 O2
        have bz : Below w3.heap.size w3 v2 := bq.trans (O2.toBelow bq.size (by simp; omega))
        have A2 := A1.off O2 (by simp; omega)
        refine hK.out _ _ (HS1.out _ bz) (fun hS => ?_)
        clear hK K
        (try simp only [List.getElem_toArray]); (try simp only [List.getElem_cons_succ]); (try simp only [List.getElem_cons_zero]); (try simp only [Act.put]); (try simp only [List.setIfInBounds_toArray]); (try simp only [List.set_cons_succ]); (try simp only [List.set_cons_zero])
        refine wpAnyH_done (by kernel_rfl) ?_ _
        clear hS
        go_wp2
        go_meet
        case rel => exact ⟨gA, gB, rfl, rfl, A2, B2, by omega, by omega, bz⟩
    · skip
      rw [if_pos (by rfl)]
      go_simp
      have B_35 := Blk.new u0 87 #[.int .i64 0, .int .i64 0, .int .i64 0, .int .i64 0, .int .i64 0, .int .i64 0, .int .i64 0, .int .i64 0, .int .i64 0, .int .i64 0, .int .i64 0, .int .i64 0, .int .i64 0, .int .i64 0, .int .i64 0, .int .i64 0, .int .i64 0]
      have lgB : w3.heap.size ≤ u0.heap.size := b0d.size
      have bb35 := b0d.alloc b0d.size (.cells #[.int .i64 0, .int .i64 0, .int .i64 0, .int .i64 0, .int .i64 0, .int .i64 0, .int .i64 0, .int .i64 0, .int .i64 0, .int .i64 0, .int .i64 0, .int .i64 0, .int .i64 0, .int .i64 0, .int .i64 0, .int .i64 0, .int .i64 0] 87)
      generalize u0.alloc (.cells #[.int .i64 0, .int .i64 0, .int .i64 0, .int .i64 0, .int .i64 0, .int .i64 0, .int .i64 0, .int .i64 0, .int .i64 0, .int .i64 0, .int .i64 0, .int .i64 0, .int .i64 0, .int .i64 0, .int .i64 0, .int .i64 0, .int .i64 0] 87) = uu35 at *
      generalize u0.heap.size = gB at *
      refine hK.out _ _ (HS1.out _ bb35) (fun hS => ?_)
      clear hK K
      (try simp only [List.getElem_toArray]); (try simp only [List.getElem_cons_succ]); (try simp only [List.getElem_cons_zero]); (try simp only [Act.put]); (try simp only [List.setIfInBounds_toArray]); (try simp only [List.set_cons_succ]); (try simp only [List.set_cons_zero])
      refine wpAnyH_ready (rs := [4, 10]) (by kernel_rfl) (by simp) ?_
      refine AllReadyH.cons (o := _) rfl (fun K hK => ?_) (AllReadyH.cons (o := _) rfl (fun K hK => ?_) AllReadyH.nil)
      · skip
        rw [if_pos (by rfl)]
        go_simp
        go_at_call 121
        refine (KA _).mono ?_
        rintro e uu36 ⟨rfl, hb⟩
        have bb36 := bb35.trans (hb.mono bb35.size)
        have B_36 := B_35.keep hb
        clear hb
        dsimp only
        refine hK.out _ _ (HS1.out _ bb36) (fun hS => ?_)
        clear hK K
        (try simp only [List.getElem_toArray]); (try simp only [List.getElem_cons_succ]); (try simp only [List.getElem_cons_zero]); (try simp only [Act.put]); (try simp only [List.setIfInBounds_toArray]); (try simp only [List.set_cons_succ]); (try simp only [List.set_cons_zero])
        refine wpAnyH_ready (rs := [9, 10]) (by kernel_rfl) (by simp) ?_
        refine AllReadyH.cons (o := _) rfl (fun K hK => ?_) (AllReadyH.cons (o := _) rfl (fun K hK => ?_) AllReadyH.nil)
        · skip
          rw [if_pos (by rfl)]
          go_simp
          go_at_call 121
          refine (KB _).mono ?_
          rintro e uu37 ⟨rfl, hb⟩
          have bb37 := bb36.trans (hb.mono bb36.size)
          have B_37 := B_36.keep hb
          clear hb
          dsimp only
          refine hK.out _ _ (HS1.out _ bb37) (fun hS => ?_)
          clear hK K
          (try simp only [List.getElem_toArray]); (try simp only [List.getElem_cons_succ]); (try simp only [List.getElem_cons_zero]); (try simp only [Act.put]); (try simp only [List.setIfInBounds_toArray]); (try simp only [List.set_cons_succ]); (try simp only [List.set_cons_zero])
          refine wpAnyH_ready (rs := [10]) (by kernel_rfl) (by simp) ?_
          refine AllReadyH.cons (o := _) rfl (fun K hK => ?_) AllReadyH.nil
          rw [if_pos (by rfl)]
          go_simp
          have A_38 := Blk.new uu37 87 #[.int .i64 0, .int .i64 0, .int .i64 0, .int .i64 0, .int .i64 0, .int .i64 0, .int .i64 0, .int .i64 0, .int .i64 0, .int .i64 0, .int .i64 0, .int .i64 0, .int .i64 0, .int .i64 0, .int .i64 0, .int .i64 0, .int .i64 0]
          have lgA : w3.heap.size ≤ uu37.heap.size := bb37.size
          have bb38 := bb37.alloc bb37.size (.cells #[.int .i64 0, .int .i64 0, .int .i64 0, .int .i64 0, .int .i64 0, .int .i64 0, .int .i64 0, .int .i64 0, .int .i64 0, .int .i64 0, .int .i64 0, .int .i64 0, .int .i64 0, .int .i64 0, .int .i64 0, .int .i64 0, .int .i64 0] 87)
          have B_38 := B_37.alloc (.cells #[.int .i64 0, .int .i64 0, .int .i64 0, .int .i64 0, .int .i64 0, .int .i64 0, .int .i64 0, .int .i64 0, .int .i64 0, .int .i64 0, .int .i64 0, .int .i64 0, .int .i64 0, .int .i64 0, .int .i64 0, .int .i64 0, .int .i64 0] 87)
          have hab : uu37.heap.size ≠ gB := by have := B_37.lt; omega
          generalize uu37.alloc (.cells #[.int .i64 0, .int .i64 0, .int .i64 0, .int .i64 0, .int .i64 0, .int .i64 0, .int .i64 0, .int .i64 0, .int .i64 0, .int .i64 0, .int .i64 0, .int .i64 0, .int .i64 0, .int .i64 0, .int .i64 0, .int .i64 0, .int .i64 0] 87) = uu38 at *
          generalize uu37.heap.size = gA at *
          refine hK.out _ _ (HS1.out _ bb38) (fun hS => ?_)
          clear hK K
          (try simp only [List.getElem_toArray]); (try simp only [List.getElem_cons_succ]); (try simp only [List.getElem_cons_zero]); (try simp only [Act.put]); (try simp only [List.setIfInBounds_toArray]); (try simp only [List.set_cons_succ]); (try simp only [List.set_cons_zero])
          refine wpAnyH_ready (rs := [12]) (by kernel_rfl) (by simp) ?_
          refine AllReadyH.cons (o := _) rfl (fun K hK => ?_) AllReadyH.nil
          refine step_store_blk rfl 87 _ _ rfl gA (cells1 (2 :: X)) rfl rfl A_38 (by rw [cells1_size, HX.out]; rfl) (by rw [cells1_size, HX.out]; kernel_rfl) (cells1_one _) ?_
          intro v1 A1 O1
          have bq : Below w3.heap.size w3 v1 := bb38.trans (O1.toBelow bb38.size (by simp; omega))
          have B1q := B_38.off O1 (by simp; omega)
          refine hK.out _ _ (HS1.out _ bq) (fun hS => ?_)
          clear hK K
          (try simp only [List.getElem_toArray]); (try simp only [List.getElem_cons_succ]); (try simp only [List.getElem_cons_zero]); (try simp only [Act.put]); (try simp only [List.setIfInBounds_toArray]); (try simp only [List.set_cons_succ]); (try simp only [List.set_cons_zero])
          refine wpAnyH_ready (rs := [13]) (by kernel_rfl) (by simp) ?_
          refine AllReadyH.cons (o := _) rfl (fun K hK => ?_) AllReadyH.nil
          refine step_store_blk rfl 87 _ _ rfl gB (cells1 (2 :: Y)) rfl rfl B1q (by rw [cells1_size, HY.out]; rfl) (by rw [cells1_size, HY.out]; kernel_rfl) (cells1_one _) ?_
          intro v2 B2 O2
          have bz : Below w3.heap.size w3 v2 := bq.trans (O2.toBelow bq.size (by simp; omega))
          have A2 := A1.off O2 (by simp; omega)
          refine hK.out _ _ (HS1.out _ bz) (fun hS => ?_)
          clear hK K
          (try simp only [List.getElem_toArray]); (try simp only [List.getElem_cons_succ]); (try simp only [List.getElem_cons_zero]); (try simp only [Act.put]); (try simp only [List.setIfInBounds_toArray]); (try simp only [List.set_cons_succ]); (try simp only [List.set_cons_zero])
          refine wpAnyH_done (by kernel_rfl) ?_ _
          clear hS
          go_wp2
          go_meet
          case rel => exact ⟨gA, gB, rfl, rfl, A2, B2, by omega, by omega, bz⟩
        · skip
          rw [if_pos (by rfl)]
          go_simp
          have A_40 := Blk.new uu36 87 #[.int .i64 0, .int .i64 0, .int .i64 0, .int .i64 0, .int .i64 0, .int .i64 0, .int .i64 0, .int .i64 0, .int .i64 0, .int .i64 0, .int .i64 0, .int .i64 0, .int .i64 0, .int .i64 0, .int .i64 0, .int .i64 0, .int .i64 0]
          have lgA : w3.heap.size ≤ uu36.heap.size := bb36.size
          have bb40 := bb36.alloc bb36.size (.cells #[.int .i64 0, .int .i64 0, .int .i64 0, .int .i64 0, .int .i64 0, .int .i64 0, .int .i64 0, .int .i64 0, .int .i64 0, .int .i64 0, .int .i64 0, .int .i64 0, .int .i64 0, .int .i64 0, .int .i64 0, .int .i64 0, .int .i64 0] 87)
          have B_40 := B_36.alloc (.cells #[.int .i64 0, .int .i64 0, .int .i64 0, .int .i64 0, .int .i64 0, .int .i64 0, .int .i64 0, .int .i64 0, .int .i64 0, .int .i64 0, .int .i64 0, .int .i64 0, .int .i64 0, .int .i64 0, .int .i64 0, .int .i64 0, .int .i64 0] 87)
          have hab : uu36.heap.size ≠ gB := by have := B_36.lt; omega
          generalize uu36.alloc (.cells #[.int .i64 0, .int .i64 0, .int .i64 0, .int .i64 0, .int .i64 0, .int .i64 0, .int .i64 0, .int .i64 0, .int .i64 0, .int .i64 0, .int .i64 0, .int .i64 0, .int .i64 0, .int .i64 0, .int .i64 0, .int .i64 0, .int .i64 0] 87) = uu40 at *
          generalize uu36.heap.size = gA at *
          refine hK.out _ _ (HS1.out _ bb40) (fun hS => ?_)
          clear hK K
          (try simp only [List.getElem_toArray]); (try simp only [List.getElem_cons_succ]); (try simp only [List.getElem_cons_zero]); (try simp only [Act.put]); (try simp only [List.setIfInBounds_toArray]); (try simp only [List.set_cons_succ]); (try simp only [List.set_cons_zero])
          refine wpAnyH_ready (rs := [9]) (by kernel_rfl) (by simp) ?_
          refine AllReadyH.cons (o := _) rfl (fun K hK => ?_) AllReadyH.nil
          rw [if_pos (by rfl)]
          go_simp
          go_at_call 121
          refine (KB _).mono ?_
          rintro e uu41 ⟨rfl, hb⟩
          have bb41 := bb40.trans (hb.mono bb40.size)
          have A_41 := A_40.keep hb
          have B_41 := B_40.keep hb
          clear hb
          dsimp only
          refine hK.out _ _ (HS1.out _ bb41) (fun hS => ?_)
          clear hK K
          (try simp only [List.getElem_toArray]); (try simp only [List.getElem_cons_succ]); (try simp only [List.getElem_cons_zero]); (try simp only [Act.put]); (try simp only [List.setIfInBounds_toArray]); (try simp only [List.set_cons_succ]); (try simp only [List.set_cons_zero])
          refine wpAnyH_ready (rs := [12]) (by kernel_rfl) (by simp) ?_
          refine AllReadyH.cons (o := _) rfl (fun K hK => ?_) AllReadyH.nil
          refine step_store_blk rfl 87 _ _ rfl gA (cells1 (2 :: X)) rfl rfl A_41 (by rw [cells1_size, HX.out]; rfl) (by rw [cells1_size, HX.out]; kernel_rfl) (cells1_one _) ?_
          intro v1 A1 O1
          have bq : Below w3.heap.size w3 v1 := bb41.trans (O1.toBelow bb41.size (by simp; omega))
          have B1q := B_41.off O1 (by simp; omega)
          refine hK.out _ _ (HS1.out _ bq) (fun hS => ?_)
          clear hK K
          (try simp only [List.getElem_toArray]); (try simp only [List.getElem_cons_succ]); (try simp only [List.getElem_cons_zero]); (try simp only [Act.put]); (try simp only [List.setIfInBounds_toArray]); (try simp only [List.set_cons_succ]); (try simp only [List.set_cons_zero])
          refine wpAnyH_ready (rs := [13]) (by kernel_rfl) (by simp) ?_
          refine AllReadyH.cons (o := _) rfl (fun K hK => ?_) AllReadyH.nil
          refine step_store_blk rfl 87 _ _ rfl gB (cells1 (2 :: Y)) rfl rfl B1q (by rw [cells1_size, HY.out]; rfl) (by rw [cells1_size, HY.out]; kernel_rfl) (cells1_one _) ?_
          intro v2 B2 O2
          have bz : Below w3.heap.size w3 v2 := bq.trans (O2.toBelow bq.size (by simp; omega))
          have A2 := A1.off O2 (by simp; omega)
          refine hK.out _ _ (HS1.out _ bz) (fun hS => ?_)
          clear hK K
          (try simp only [List.getElem_toArray]); (try simp only [List.getElem_cons_succ]); (try simp only [List.getElem_cons_zero]); (try simp only [Act.put]); (try simp only [List.setIfInBounds_toArray]); (try simp only [List.set_cons_succ]); (try simp only [List.set_cons_zero])
          refine wpAnyH_done (by kernel_rfl) ?_ _
          clear hS
          go_wp2
          go_meet
          case rel => exact ⟨gA, gB, rfl, rfl, A2, B2, by omega, by omega, bz⟩
      · skip
        rw [if_pos (by rfl)]
        go_simp
        have A_43 := Blk.new uu35 87 #[.int .i64 0, .int .i64 0, .int .i64 0, .int .i64 0, .int .i64 0, .int .i64 0, .int .i64 0, .int .i64 0, .int .i64 0, .int .i64 0, .int .i64 0, .int .i64 0, .int .i64 0, .int .i64 0, .int .i64 0, .int .i64 0, .int .i64 0]
        have lgA : w3.heap.size ≤ uu35.heap.size := bb35.size
        have bb43 := bb35.alloc bb35.size (.cells #[.int .i64 0, .int .i64 0, .int .i64 0, .int .i64 0, .int .i64 0, .int .i64 0, .int .i64 0, .int .i64 0, .int .i64 0, .int .i64 0, .int .i64 0, .int .i64 0, .int .i64 0, .int .i64 0, .int .i64 0, .int .i64 0, .int .i64 0] 87)
        have B_43 := B_35.alloc (.cells #[.int .i64 0, .int .i64 0, .int .i64 0, .int .i64 0, .int .i64 0, .int .i64 0, .int .i64 0, .int .i64 0, .int .i64 0, .int .i64 0, .int .i64 0, .int .i64 0, .int .i64 0, .int .i64 0, .int .i64 0, .int .i64 0, .int .i64 0] 87)
        have hab : uu35.heap.size ≠ gB := by have := B_35.lt; omega
        generalize uu35.alloc (.cells #[.int .i64 0, .int .i64 0, .int .i64 0, .int .i64 0, .int .i64 0, .int .i64 0, .int .i64 0, .int .i64 0, .int .i64 0, .int .i64 0, .int .i64 0, .int .i64 0, .int .i64 0, .int .i64 0, .int .i64 0, .int .i64 0, .int .i64 0] 87) = uu43 at *
        generalize uu35.heap.size = gA at *
        refine hK.out _ _ (HS1.out _ bb43) (fun hS => ?_)
        clear hK K
        (try simp only [List.getElem_toArray]); (try simp only [List.getElem_cons_succ]); (try simp only [List.getElem_cons_zero]); (try simp only [Act.put]); (try simp only [List.setIfInBounds_toArray]); (try simp only [List.set_cons_succ]); (try simp only [List.set_cons_zero])
        refine wpAnyH_ready (rs := [4]) (by kernel_rfl) (by simp) ?_
        refine AllReadyH.cons (o := _) rfl (fun K hK => ?_) AllReadyH.nil
        rw [if_pos (by rfl)]
        go_simp
        go_at_call 121
        refine (KA _).mono ?_
        rintro e uu44 ⟨rfl, hb⟩
        have bb44 := bb43.trans (hb.mono bb43.size)
        have A_44 := A_43.keep hb
        have B_44 := B_43.keep hb
        clear hb
        dsimp only
        refine hK.out _ _ (HS1.out _ bb44) (fun hS => ?_)
        clear hK K
        (try simp only [List.getElem_toArray]); (try simp only [List.getElem_cons_succ]); (try simp only [List.getElem_cons_zero]); (try simp only [Act.put]); (try simp only [List.setIfInBounds_toArray]); (try simp only [List.set_cons_succ]); (try simp only [List.set_cons_zero])
        refine wpAnyH_ready (rs := [9]) (by kernel_rfl) (by simp) ?_
        refine AllReadyH.cons (o := _) rfl (fun K hK => ?_) AllReadyH.nil
        rw [if_pos (by rfl)]
        go_simp
        go_at_call 121
        refine (KB _).mono ?_
        rintro e uu45 ⟨rfl, hb⟩
        have bb45 := bb44.trans (hb.mono bb44.size)
        have A_45 := A_44.keep hb
        have B_45 := B_44.keep hb
        clear hb
        dsimp only
        refine hK.out _ _ (HS1.out _ bb45) (fun hS => ?_)
        clear hK K
        (try simp only [List.getElem_toArray]); (try simp only [List.getElem_cons_succ]); (try simp only [List.getElem_cons_zero]); (try simp only [Act.put]); (try simp only [List.setIfInBounds_toArray]); (try simp only [List.set_cons_succ]); (try simp only [List.set_cons_zero])
        refine wpAnyH_ready (rs := [12]) (by kernel_rfl) (by simp) ?_
        refine AllReadyH.cons (o := _) rfl (fun K hK => ?_) AllReadyH.nil
        refine step_store_blk rfl 87 _ _ rfl gA (cells1 (2 :: X)) rfl rfl A_45 (by rw [cells1_size, HX.out]; rfl) (by rw [cells1_size, HX.out]; kernel_rfl) (cells1_one _) ?_
        intro v1 A1 O1
        have bq : Below w3.heap.size w3 v1 := bb45.trans (O1.toBelow bb45.size (by simp; omega))
        have B1q := B_45.off O1 (by simp; omega)
        refine hK.out _ _ (HS1.out _ bq) (fun hS => ?_)
        clear hK K
        (try simp only [List.getElem_toArray]); (try simp only [List.getElem_cons_succ]); (try simp only [List.getElem_cons_zero]); (try simp only [Act.put]); (try simp only [List.setIfInBounds_toArray]); (try simp only [List.set_cons_succ]); (try simp only [List.set_cons_zero])
        refine wpAnyH_ready (rs := [13]) (by kernel_rfl) (by simp) ?_
        refine AllReadyH.cons (o := _) rfl (fun K hK => ?_) AllReadyH.nil
        refine step_store_blk rfl 87 _ _ rfl gB (cells1 (2 :: Y)) rfl rfl B1q (by rw [cells1_size, HY.out]; rfl) (by rw [cells1_size, HY.out]; kernel_rfl) (cells1_one _) ?_
        intro v2 B2 O2
        have bz : Below w3.heap.size w3 v2 := bq.trans (O2.toBelow bq.size (by simp; omega))
        have A2 := A1.off O2 (by simp; omega)
        refine hK.out _ _ (HS1.out _ bz) (fun hS => ?_)
        clear hK K
        (try simp only [List.getElem_toArray]); (try simp only [List.getElem_cons_succ]); (try simp only [List.getElem_cons_zero]); (try simp only [Act.put]); (try simp only [List.setIfInBounds_toArray]); (try simp only [List.set_cons_succ]); (try simp only [List.set_cons_zero])
        refine wpAnyH_done (by kernel_rfl) ?_ _
        clear hS
        go_wp2
        go_meet
        case rel => exact ⟨gA, gB, rfl, rfl, A2, B2, by omega, by omega, bz⟩
  case rest =>
    obtain ⟨gA, gB, rfl, rfl, GA, GB, lA, lB, bz⟩ := hcut
    obtain ⟨wz, eu⟩ : ∃ x : World, x = wc := ⟨_, rfl⟩
    subst eu
    have z3o := z3.out
    have zz := bz.size
    have Yz := Y3.keep bz
    have Rz := R3.keep bz
    have Gz := G3.keep bz
    have Nz := N3.keep bz
    have Bz := B3.trans (bz.mono B3.size)
    clear X3 Y3 R3 G3 N3 HS1 KA KB z3 B3 k1c k2c
    skip
    go_wp2_with (first | (refine wpList_load_blk rfl 87 _ rfl gA rfl GA Tryz.underlying87 rfl (by rw [cells1_size, HX.out]; kernel_rfl) ?_) | (refine wpList_load_blk rfl 87 _ rfl (w.heap.size + 1) rfl Yz Tryz.underlying87 rfl (by rw [cells1_size, HG.out]; kernel_rfl) ?_))
    refine (KS _).mono ?_
    rintro e w5 ⟨rfl, hb5⟩
    have GA5 := GA.keep hb5
    have GB5 := GB.keep hb5
    have R5 := Rz.keep hb5
    have G5 := Gz.keep hb5
    have N5 := Nz.keep hb5
    have B5 := Bz.trans (hb5.mono Bz.size)
    have z5 := hb5.size
    clear GA GB Yz Rz Gz Nz Bz hb5 KS bz
    have Tn := Blk.new w5 87 #[.int .i64 0, .int .i64 0, .int .i64 0, .int .i64 0, .int .i64 0, .int .i64 0, .int .i64 0, .int .i64 0, .int .i64 0, .int .i64 0, .int .i64 0, .int .i64 0, .int .i64 0, .int .i64 0, .int .i64 0, .int .i64 0, .int .i64 0]
    go_upto_region 3 with (refine wpList_store_blk rfl 87 _ _ rfl w5.heap.size (cells1 (2 :: ss)) rfl rfl Tn (by rw [cells1_size, HSS.out]; rfl) (by rw [cells1_size, HSS.out]; kernel_rfl) (cells1_one _) ?_; intro w6 T6 O6)
    have O6' : Off [w5.heap.size] w5 w6 := ((Off.refl _ _).alloc _).trans O6
    have lGA := GA5.lt
    have lGB := GB5.lt
    have lR5 := R5.lt
    have GA6 := GA5.off O6' (by simp; omega)
    have GB6 := GB5.off O6' (by simp; omega)
    have R6 := R5.off O6' (by simp; omega)
    have G6 := G5.off O6' (by simp; omega)
    have N6 := N5.off O6' (by simp; omega) (fun y hy hm => by have := lNs y hy; simp at hm; omega)
    have B6 := B5.trans (O6'.toBelow B5.size (by simp; omega))
    have lT : w.heap.size + 1 + 1 < w5.heap.size := lR5
    clear Tn O6 O6' GA5 GB5 R5 G5 N5 B5
    generalize w5.heap.size = gT at *
    have lT6 := T6.lt
    cases last
    · have HIF : Hid ((if false = true then c else nn) = nn ∧ (if false = true then x else x2) = x2) := ⟨rfl, rfl⟩
      skip
      go_upto_region 4 with fail
      have HS4 : Hid (∀ V, Off (b0 :: bs) w6 V → V.cell? ⟨bc, 0, none⟩ = some (.pointer (some ⟨gC, 0, none⟩)) ∧ V.cell? ⟨bn, 0, none⟩ = some (.pointer (some ⟨b0, 0, none⟩)) ∧ V.rangeAt gA 0 (cells1 (2 :: X)).toList ∧ V.rangeAt gB 0 (cells1 (2 :: Y)).toList ∧ V.rangeAt gC 0 (cells1 (2 :: c)).toList) := fun V h => ⟨((h.at bc (by have := B6.size; omega) (fun hm => n1 (by rcases List.mem_cons.1 hm with h2 | h2; (rw [h2]; simp); (simp [h2])))).1 _).trans ((B6.cell (p := ⟨bc, 0, none⟩) l1).trans HK1.out), ((h.at bn (by have := B6.size; omega) (fun hm => n2 (by rcases List.mem_cons.1 hm with h2 | h2; (rw [h2]; simp); (simp [h2])))).1 _).trans ((B6.cell (p := ⟨bn, 0, none⟩) l2).trans HK2.out), (GA6.off h (fun hm => by rcases List.mem_cons.1 hm with h2 | h2; omega; (have := lNs _ h2; omega))).range, (GB6.off h (fun hm => by rcases List.mem_cons.1 hm with h2 | h2; omega; (have := lNs _ h2; omega))).range, (G6.off h n0).range⟩
      refine wp_region_held (S := fun V => V.cell? ⟨bc, 0, none⟩ = some (.pointer (some ⟨gC, 0, none⟩)) ∧ V.cell? ⟨bn, 0, none⟩ = some (.pointer (some ⟨b0, 0, none⟩)) ∧ V.rangeAt gA 0 (cells1 (2 :: X)).toList ∧ V.rangeAt gB 0 (cells1 (2 :: Y)).toList ∧ True) (by kernel_rfl) ?_
      try (change wpAnyH _ _ _ _ _ _ _ _ (World.drew _))
      have HS5 : Hid (∀ V, Off (b0 :: gC :: bs) w6 V → V.cell? ⟨bc, 0, none⟩ = some (.pointer (some ⟨gC, 0, none⟩)) ∧ V.cell? ⟨bn, 0, none⟩ = some (.pointer (some ⟨b0, 0, none⟩)) ∧ V.rangeAt gA 0 (cells1 (2 :: X)).toList ∧ V.rangeAt gB 0 (cells1 (2 :: Y)).toList ∧ True) := fun V h => ⟨((h.at bc (by have := B6.size; omega) n1).1 _).trans ((B6.cell (p := ⟨bc, 0, none⟩) l1).trans HK1.out), ((h.at bn (by have := B6.size; omega) n2).1 _).trans ((B6.cell (p := ⟨bn, 0, none⟩) l2).trans HK2.out), (GA6.off h (fun hm => by rcases List.mem_cons.1 hm with h2 | h2; omega; (rcases List.mem_cons.1 h2 with h2 | h2; omega; (have := lNs _ h2; omega)))).range, (GB6.off h (fun hm => by rcases List.mem_cons.1 hm with h2 | h2; omega; (rcases List.mem_cons.1 h2 with h2 | h2; omega; (have := lNs _ h2; omega)))).range, trivial⟩
      have b6d : Below w6.heap.size w6 w6.drew := (Below.refl _ _).drew
      have N7 := N6.keep b6d
      have G7 := G6.keep b6d
      have T7 := T6.keep b6d
      have R7 := R6.keep b6d
      have P7 : Off (b0 :: gC :: bs) w w6.drew := (Off.ofBelow B6).trans (Off.ofBelow b6d)
      have hS := HS5.out _ (Off.ofBelow b6d)
      have O67 : Off (b0 :: gC :: bs) w6 w6.drew := Off.ofBelow b6d
      have z6 := B6.size
      have zd : w6.drew.heap.size = w6.heap.size := rfl
      clear N6 G6 T6 R6 B6 b6d HS4
      generalize w6.drew = w7 at *
      refine wpAnyH_take (i := 0) (v := ?vn5) rfl (by kernel_rfl) (by kernel_rfl) (by kernel_rfl) (fun _ _ _ h => h) (Or.inl ⟨by rfl, ?hn5⟩) hS ?rn5
      case hn5 => intro w' hSw; obtain ⟨s0, s1, s2, s3, s4⟩ := hSw; clear s2 s3 s4; go_simp; (try with_reducible rfl)
      (try simp only [List.getElem_toArray]); (try simp only [List.getElem_cons_succ]); (try simp only [List.getElem_cons_zero]); (try simp only [Act.put]); (try simp only [List.setIfInBounds_toArray]); (try simp only [List.set_cons_succ]); (try simp only [List.set_cons_zero])
      refine wpAnyH_take (i := 1) (v := ?vn6) rfl (by kernel_rfl) (by kernel_rfl) (by kernel_rfl) (fun _ _ _ h => h) (Or.inl ⟨by rfl, ?hn6⟩) hS ?rn6
      case hn6 => intro w' hSw; obtain ⟨s0, s1, s2, s3, s4⟩ := hSw; clear s2 s3 s4; go_simp; (try with_reducible rfl)
      (try simp only [List.getElem_toArray]); (try simp only [List.getElem_cons_succ]); (try simp only [List.getElem_cons_zero]); (try simp only [Act.put]); (try simp only [List.setIfInBounds_toArray]); (try simp only [List.set_cons_succ]); (try simp only [List.set_cons_zero])
      refine wpAnyH_take (i := 2) (v := .agg (cells1 (2 :: X))) rfl (by kernel_rfl) (by kernel_rfl) (by kernel_rfl) (fun _ _ _ h => h) (yieldsIf_load_mid (by rfl) _ _ rfl gA 0 rfl (cells1 (2 :: X)).toList _ (fun _ h => h.2.2.1) Tryz.underlying87 rfl (by rw [Array.length_toList, cells1_size, HX.out]; kernel_rfl)) hS ?_
      (try simp only [List.getElem_toArray]); (try simp only [List.getElem_cons_succ]); (try simp only [List.getElem_cons_zero]); (try simp only [Act.put]); (try simp only [List.setIfInBounds_toArray]); (try simp only [List.set_cons_succ]); (try simp only [List.set_cons_zero])
      refine wpAnyH_take (i := 3) (v := .agg (cells1 (2 :: Y))) rfl (by kernel_rfl) (by kernel_rfl) (by kernel_rfl) (fun _ _ _ h => h) (yieldsIf_load_mid (by rfl) _ _ rfl gB 0 rfl (cells1 (2 :: Y)).toList _ (fun _ h => h.2.2.2.1) Tryz.underlying87 rfl (by rw [Array.length_toList, cells1_size, HY.out]; kernel_rfl)) hS ?_
      (try simp only [List.getElem_toArray]); (try simp only [List.getElem_cons_succ]); (try simp only [List.getElem_cons_zero]); (try simp only [Act.put]); (try simp only [List.setIfInBounds_toArray]); (try simp only [List.set_cons_succ]); (try simp only [List.set_cons_zero])
      refine wpAnyH_take (i := 5) (v := ?vn7) rfl (by kernel_rfl) (by kernel_rfl) (by kernel_rfl) (fun _ _ _ h => h) (Or.inl ⟨by rfl, ?hn7⟩) hS ?rn7
      case hn7 => intro w' hSw; obtain ⟨s0, s1, s2, s3, s4⟩ := hSw; clear s2 s3 s4; go_simp; (try with_reducible rfl)
      (try simp only [List.getElem_toArray]); (try simp only [List.getElem_cons_succ]); (try simp only [List.getElem_cons_zero]); (try simp only [Act.put]); (try simp only [List.setIfInBounds_toArray]); (try simp only [List.set_cons_succ]); (try simp only [List.set_cons_zero])
      refine wpAnyH_take (i := 6) (v := ?vn8) rfl (by kernel_rfl) (by kernel_rfl) (by kernel_rfl) (fun _ _ _ h => h) (Or.inl ⟨by rfl, ?hn8⟩) hS ?rn8
      case hn8 => intro w' hSw; obtain ⟨s0, s1, s2, s3, s4⟩ := hSw; clear s2 s3 s4; go_simp; (try with_reducible rfl)
      (try simp only [List.getElem_toArray]); (try simp only [List.getElem_cons_succ]); (try simp only [List.getElem_cons_zero]); (try simp only [Act.put]); (try simp only [List.setIfInBounds_toArray]); (try simp only [List.set_cons_succ]); (try simp only [List.set_cons_zero])
      refine wpAnyH_ready (rs := [4, 7]) (by kernel_rfl) (by simp) ?_
      refine AllReadyH.cons (o := _) rfl (fun K hK => ?_) (AllReadyH.cons (o := _) rfl (fun K hK => ?_) AllReadyH.nil)
      · skip
        rw [if_pos (by rfl)]
        go_simp
        go_at_call 97
        refine (KP _ N7).mono ?_
        rintro e w8 ⟨rfl, cs, N8, hcs, O8⟩
        have G8 := G7.off O8 n0
        have nh : ∀ y, w.heap.size ≤ y → y ∉ b0 :: bs := fun y hy hm => by rcases List.mem_cons.1 hm with h | h; omega; (have := lNs _ h; omega)
        have T8 := T7.off O8 (nh _ (by omega))
        have R8 := R7.off O8 (nh _ (by omega))
        have O8w : Off (b0 :: gC :: bs) w7 w8 := O8.mono (fun y hy => by rcases List.mem_cons.1 hy with h | h; (rw [h]; simp); (simp [h]))
        have P8 := P7.trans O8w
        have O68 := O67.trans O8w
        have hcs2 : ∀ y ∈ cs, y ∈ bs ∨ w.heap.size + 3 ≤ y := fun y hy => by rcases hcs y hy with h | h; (exact .inl h); (right; omega)
        dsimp only
        refine hK.out _ _ (HS5.out _ O68) (fun hS => ?_)
        clear hK K
        (try simp only [List.getElem_toArray]); (try simp only [List.getElem_cons_succ]); (try simp only [List.getElem_cons_zero]); (try simp only [Act.put]); (try simp only [List.setIfInBounds_toArray]); (try simp only [List.set_cons_succ]); (try simp only [List.set_cons_zero])
        refine wpAnyH_ready (rs := [7]) (by kernel_rfl) (by simp) ?_
        refine AllReadyH.cons (o := _) rfl (fun K hK => ?_) AllReadyH.nil
        refine step_load_blk rfl 87 _ rfl gC rfl G8 Tryz.underlying87 rfl (by rw [cells1_size, HC.out]; kernel_rfl) ?_
        refine hK.out _ _ (HS5.out _ O68) (fun hS => ?_)
        clear hK K
        (try simp only [List.getElem_toArray]); (try simp only [List.getElem_cons_succ]); (try simp only [List.getElem_cons_zero]); (try simp only [Act.put]); (try simp only [List.setIfInBounds_toArray]); (try simp only [List.set_cons_succ]); (try simp only [List.set_cons_zero])
        refine wpAnyH_ready (rs := [8]) (by kernel_rfl) (by simp) ?_
        refine AllReadyH.cons (o := _) rfl (fun K hK => ?_) AllReadyH.nil
        rw [if_pos (by rfl)]
        go_simp
        go_at_call 121
        refine (KC _).mono ?_
        rintro e w9 ⟨rfl, hb9⟩
        have G9 := G8.keep hb9
        have T9 := T8.keep hb9
        have R9 := R8.keep hb9
        have N9 := N8.keep hb9
        have P9 := P8.trans (Off.ofBelow hb9)
        have O69 := O68.trans (Off.ofBelow hb9)
        dsimp only
        refine hK.out _ _ (HS5.out _ O69) (fun hS => ?_)
        clear hK K
        (try simp only [List.getElem_toArray]); (try simp only [List.getElem_cons_succ]); (try simp only [List.getElem_cons_zero]); (try simp only [Act.put]); (try simp only [List.setIfInBounds_toArray]); (try simp only [List.set_cons_succ]); (try simp only [List.set_cons_zero])
        refine wpAnyH_take (i := 9) (v := ?vn9) rfl (by kernel_rfl) (by kernel_rfl) (by kernel_rfl) (fun _ _ _ h => h) (Or.inl ⟨by rfl, ?hn9⟩) hS ?rn9
        case hn9 => intro w' hSw; obtain ⟨s0, s1, s2, s3, s4⟩ := hSw; clear s2 s3 s4; go_simp; (try with_reducible rfl)
        (try simp only [List.getElem_toArray]); (try simp only [List.getElem_cons_succ]); (try simp only [List.getElem_cons_zero]); (try simp only [Act.put]); (try simp only [List.setIfInBounds_toArray]); (try simp only [List.set_cons_succ]); (try simp only [List.set_cons_zero])
        refine wpAnyH_ready (rs := [10]) (by kernel_rfl) (by simp) ?_
        refine AllReadyH.cons (o := _) rfl (fun K hK => ?_) AllReadyH.nil
        refine step_store_blk rfl 87 _ _ rfl gC (cells1 (2 :: nn)) rfl rfl G9 (by rw [cells1_size, cells1_size, HC.out, HN.out]) (by rw [cells1_size, HN.out]; kernel_rfl) (cells1_one _) ?_
        intro w10 G10 O10
        have O6x := O69.trans (O10.mono (by simp))
        refine hK.out _ _ (HS5.out _ O6x) (fun hS => ?_)
        clear hK K
        (try simp only [List.getElem_toArray]); (try simp only [List.getElem_cons_succ]); (try simp only [List.getElem_cons_zero]); (try simp only [Act.put]); (try simp only [List.setIfInBounds_toArray]); (try simp only [List.set_cons_succ]); (try simp only [List.set_cons_zero])
        refine wpAnyH_done (by kernel_rfl) ?_ _
        clear hS
        have hnC : gC ∉ cs := fun h => by rcases hcs2 _ h with h2 | h2; (exact n0 (List.mem_cons.2 (.inr h2))); omega
        have T10 := T9.off O10 (by simp; omega)
        have R10 := R9.off O10 (by simp; omega)
        have N10 := N9.off O10 (fun hm => by simp at hm; exact n0 (by rw [← hm]; simp)) (fun y hy hm => by simp at hm; exact hnC (hm ▸ hy))
        have P10 := P9.trans (O10.mono (by simp))
        have lT10 := T10.lt
        go_wp2_with (first | (refine wpList_load_blk rfl 87 _ rfl gT rfl T10 Tryz.underlying87 rfl (by rw [cells1_size, HSS.out]; kernel_rfl) ?_) | (refine wpList_store_blk rfl 87 _ _ rfl (w.heap.size + 1 + 1) (cells1 (2 :: ss)) rfl rfl R10 (by rw [cells1_size, HSS.out]; rfl) (by rw [cells1_size, HSS.out]; kernel_rfl) (cells1_one _) ?_; intro w20 R20 O20))
        exact bodyPost_ret (v := .agg (cells1 (2 :: ss))) (results_blk Tryz.results147 rfl R20 Tryz.underlying87 rfl (by rw [cells1_size, HSS.out]; kernel_rfl)) rfl ⟨rfl, by (try rw [HIF.out.1]); exact G10.off O20 (by simp; omega), _, by (try rw [HIF.out.2]); exact N10.off O20 (by simp; omega) (fun y hy hm => by simp at hm; rcases hcs2 y hy with h | h; (have := lNs _ h; omega); omega), fun y hy => by rcases hcs2 y hy with h | h; (exact .inl h); (right; omega), P10.mix O20 (fun y hy => by simp at hy; right; omega)⟩
      · skip
        refine step_load_blk rfl 87 _ rfl gC rfl G7 Tryz.underlying87 rfl (by rw [cells1_size, HC.out]; kernel_rfl) ?_
        refine hK.out _ _ (HS5.out _ O67) (fun hS => ?_)
        clear hK K
        (try simp only [List.getElem_toArray]); (try simp only [List.getElem_cons_succ]); (try simp only [List.getElem_cons_zero]); (try simp only [Act.put]); (try simp only [List.setIfInBounds_toArray]); (try simp only [List.set_cons_succ]); (try simp only [List.set_cons_zero])
        refine wpAnyH_ready (rs := [4]) (by kernel_rfl) (by simp) ?_
        refine AllReadyH.cons (o := _) rfl (fun K hK => ?_) AllReadyH.nil
        rw [if_pos (by rfl)]
        go_simp
        go_at_call 97
        refine (KP _ N7).mono ?_
        rintro e w8 ⟨rfl, cs, N8, hcs, O8⟩
        have G8 := G7.off O8 n0
        have nh : ∀ y, w.heap.size ≤ y → y ∉ b0 :: bs := fun y hy hm => by rcases List.mem_cons.1 hm with h | h; omega; (have := lNs _ h; omega)
        have T8 := T7.off O8 (nh _ (by omega))
        have R8 := R7.off O8 (nh _ (by omega))
        have O8w : Off (b0 :: gC :: bs) w7 w8 := O8.mono (fun y hy => by rcases List.mem_cons.1 hy with h | h; (rw [h]; simp); (simp [h]))
        have P8 := P7.trans O8w
        have O68 := O67.trans O8w
        have hcs2 : ∀ y ∈ cs, y ∈ bs ∨ w.heap.size + 3 ≤ y := fun y hy => by rcases hcs y hy with h | h; (exact .inl h); (right; omega)
        dsimp only
        refine hK.out _ _ (HS5.out _ O68) (fun hS => ?_)
        clear hK K
        (try simp only [List.getElem_toArray]); (try simp only [List.getElem_cons_succ]); (try simp only [List.getElem_cons_zero]); (try simp only [Act.put]); (try simp only [List.setIfInBounds_toArray]); (try simp only [List.set_cons_succ]); (try simp only [List.set_cons_zero])
        refine wpAnyH_ready (rs := [8]) (by kernel_rfl) (by simp) ?_
        refine AllReadyH.cons (o := _) rfl (fun K hK => ?_) AllReadyH.nil
        rw [if_pos (by rfl)]
        go_simp
        go_at_call 121
        refine (KC _).mono ?_
        rintro e w9 ⟨rfl, hb9⟩
        have G9 := G8.keep hb9
        have T9 := T8.keep hb9
        have R9 := R8.keep hb9
        have N9 := N8.keep hb9
        have P9 := P8.trans (Off.ofBelow hb9)
        have O69 := O68.trans (Off.ofBelow hb9)
        dsimp only
        refine hK.out _ _ (HS5.out _ O69) (fun hS => ?_)
        clear hK K
        (try simp only [List.getElem_toArray]); (try simp only [List.getElem_cons_succ]); (try simp only [List.getElem_cons_zero]); (try simp only [Act.put]); (try simp only [List.setIfInBounds_toArray]); (try simp only [List.set_cons_succ]); (try simp only [List.set_cons_zero])
        refine wpAnyH_take (i := 9) (v := ?vn10) rfl (by kernel_rfl) (by kernel_rfl) (by kernel_rfl) (fun _ _ _ h => h) (Or.inl ⟨by rfl, ?hn10⟩) hS ?rn10
        case hn10 => intro w' hSw; obtain ⟨s0, s1, s2, s3, s4⟩ := hSw; clear s2 s3 s4; go_simp; (try with_reducible rfl)
        (try simp only [List.getElem_toArray]); (try simp only [List.getElem_cons_succ]); (try simp only [List.getElem_cons_zero]); (try simp only [Act.put]); (try simp only [List.setIfInBounds_toArray]); (try simp only [List.set_cons_succ]); (try simp only [List.set_cons_zero])
        refine wpAnyH_ready (rs := [10]) (by kernel_rfl) (by simp) ?_
        refine AllReadyH.cons (o := _) rfl (fun K hK => ?_) AllReadyH.nil
        refine step_store_blk rfl 87 _ _ rfl gC (cells1 (2 :: nn)) rfl rfl G9 (by rw [cells1_size, cells1_size, HC.out, HN.out]) (by rw [cells1_size, HN.out]; kernel_rfl) (cells1_one _) ?_
        intro w10 G10 O10
        have O6x := O69.trans (O10.mono (by simp))
        refine hK.out _ _ (HS5.out _ O6x) (fun hS => ?_)
        clear hK K
        (try simp only [List.getElem_toArray]); (try simp only [List.getElem_cons_succ]); (try simp only [List.getElem_cons_zero]); (try simp only [Act.put]); (try simp only [List.setIfInBounds_toArray]); (try simp only [List.set_cons_succ]); (try simp only [List.set_cons_zero])
        refine wpAnyH_done (by kernel_rfl) ?_ _
        clear hS
        have hnC : gC ∉ cs := fun h => by rcases hcs2 _ h with h2 | h2; (exact n0 (List.mem_cons.2 (.inr h2))); omega
        have T10 := T9.off O10 (by simp; omega)
        have R10 := R9.off O10 (by simp; omega)
        have N10 := N9.off O10 (fun hm => by simp at hm; exact n0 (by rw [← hm]; simp)) (fun y hy hm => by simp at hm; exact hnC (hm ▸ hy))
        have P10 := P9.trans (O10.mono (by simp))
        have lT10 := T10.lt
        go_wp2_with (first | (refine wpList_load_blk rfl 87 _ rfl gT rfl T10 Tryz.underlying87 rfl (by rw [cells1_size, HSS.out]; kernel_rfl) ?_) | (refine wpList_store_blk rfl 87 _ _ rfl (w.heap.size + 1 + 1) (cells1 (2 :: ss)) rfl rfl R10 (by rw [cells1_size, HSS.out]; rfl) (by rw [cells1_size, HSS.out]; kernel_rfl) (cells1_one _) ?_; intro w20 R20 O20))
        exact bodyPost_ret (v := .agg (cells1 (2 :: ss))) (results_blk Tryz.results147 rfl R20 Tryz.underlying87 rfl (by rw [cells1_size, HSS.out]; kernel_rfl)) rfl ⟨rfl, by (try rw [HIF.out.1]); exact G10.off O20 (by simp; omega), _, by (try rw [HIF.out.2]); exact N10.off O20 (by simp; omega) (fun y hy hm => by simp at hm; rcases hcs2 y hy with h | h; (have := lNs _ h; omega); omega), fun y hy => by rcases hcs2 y hy with h | h; (exact .inl h); (right; omega), P10.mix O20 (fun y hy => by simp at hy; right; omega)⟩
    · have HIF : Hid ((if true = true then c else nn) = c ∧ (if true = true then x else x2) = x) := ⟨rfl, rfl⟩
      have hcs0 : ∀ y ∈ bs, y ∈ bs ∨ w.heap.size + 3 ≤ y := fun y hy => .inl hy
      have P6 : Off (b0 :: gC :: bs) w w6 := Off.ofBelow B6
      go_wp2_with (first | (refine wpList_load_blk rfl 87 _ rfl gT rfl T6 Tryz.underlying87 rfl (by rw [cells1_size, HSS.out]; kernel_rfl) ?_) | (refine wpList_store_blk rfl 87 _ _ rfl (w.heap.size + 1 + 1) (cells1 (2 :: ss)) rfl rfl R6 (by rw [cells1_size, HSS.out]; rfl) (by rw [cells1_size, HSS.out]; kernel_rfl) (cells1_one _) ?_; intro w20 R20 O20))
      exact bodyPost_ret (v := .agg (cells1 (2 :: ss))) (results_blk Tryz.results147 rfl R20 Tryz.underlying87 rfl (by rw [cells1_size, HSS.out]; kernel_rfl)) rfl ⟨rfl, by (try rw [HIF.out.1]); exact G6.off O20 (by simp; omega), _, by (try rw [HIF.out.2]); exact N6.off O20 (by simp; omega) (fun y hy hm => by simp at hm; rcases hcs0 y hy with h | h; (have := lNs _ h; omega); omega), fun y hy => by rcases hcs0 y hy with h | h; (exact .inl h); (right; omega), P6.mix O20 (fun y hy => by simp at hy; right; omega)⟩
end Go.Proofs.YtepobckhfodngaoGreat
