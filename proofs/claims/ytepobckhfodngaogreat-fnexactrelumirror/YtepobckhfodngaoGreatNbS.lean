/-
  A sign, in the program: sign.
-/
import Derived.Test.YtepobckhfodngaoGreatNbA
import Derived.Deep.Cut
namespace Go.Proofs.YtepobckhfodngaoGreat
open Go.ChangeShapes Go.WideShapes Go.ChangeAt Go.RowKit
set_option linter.unusedVariables false
def sgY2 (xss : List (List Int)) (x : MNet) : MNet := if (sgX1 xss x).xQuarrel.xSome = true then sgX1 xss x else sgX2 xss x
theorem sgY3 (xss : List (List Int)) (x : MNet) : (if (sgY2 xss x).xQuarrel.xSome = true then sgY2 xss x else adR (sgL xss x) (sgH xss x) (sgY2 xss x)) = sgX xss x := by
  cases h1 : (sgX1 xss x).xQuarrel.xSome
  · have e : sgY2 xss x = sgX2 xss x := by unfold sgY2; rw [if_neg (by rw [h1]; decide)]
    rw [e]
    cases h2 : (sgX2 xss x).xQuarrel.xSome
    · rw [if_neg (by decide), sgX_3 h1 h2]; rfl
    · rw [if_pos rfl, sgX_2 h1 h2]
  · have e : sgY2 xss x = sgX1 xss x := by unfold sgY2; rw [if_pos h1]
    rw [e, if_pos h1, sgX_1 h1]
theorem sgY2_no {xss : List (List Int)} {x : MNet} (h : (sgY2 xss x).xQuarrel.xSome = false) : (sgX1 xss x).xQuarrel.xSome = false ∧ (sgX2 xss x).xQuarrel.xSome = false ∧ sgY2 xss x = sgX2 xss x := by
  cases h1 : (sgX1 xss x).xQuarrel.xSome
  · have e : sgY2 xss x = sgX2 xss x := by unfold sgY2; rw [if_neg (by rw [h1]; decide)]
    exact ⟨rfl, by rw [← e]; exact h, e⟩
  · have e : sgY2 xss x = sgX1 xss x := by unfold sgY2; rw [if_pos h1]
    rw [e, h1] at h
    cases h
/-- what stands behind one sum -/
def SgMid (w wz : World) (qx : Bool) (R : MNet) (S : Nat → List Int) (Y : MNet) (b0 : Nat) (bs cs : List Nat) (g : Nat) (P : Nat → List Int) : Prop :=
  Blk wz g 156 (cells1 (shB P)) ∧ NetIn wz b0 Y cs ∧ (∀ y ∈ cs, y ∈ bs ∨ w.heap.size ≤ y) ∧ Off (b0 :: bs) w wz ∧ (∀ k, k < 8 → (P k).length = 17) ∧ (qx = false → R.xQuarrel.xSome = false → ∀ k, k < 8 → P k = 2 :: S k) ∧ w.heap.size ≤ g ∧ g ∉ cs
set_option maxHeartbeats 16000000 in
set_option maxRecDepth 100000 in
theorem impl_sign (xss : List (List Int)) (b0 : Nat) (x : MNet) (bs : List Nat) (m : Nat) (w : World) (N : NetIn w b0 x bs) (hx : NetB m x) (hm : m ≤ 199000) (hq0 : x.xQuarrel.xSome = false) (hsq : Sq xss) (hbd : ∀ i j, 0 ≤ pt xss i j ∧ pt xss i j < 256) (hown : ∀ i, i < 4 → pt xss i i = 0) :
    Calls Tryz.prog 93 #[.pointer (some ⟨b0, 0, none⟩), .agg (cells1 (256 :: xss.flatten))] w fun e w' => ∃ q0 gs cs, e = .returned (.agg (cells1 (q0 :: gs))) ∧ gs.length = 16 ∧ ((sgX xss x).xQuarrel.xSome = false → q0 = 2 ∧ gs = sgF xss x) ∧ NetIn w' b0 (sgX xss x) cs ∧ (∀ y ∈ cs, y ∈ bs ∨ w.heap.size ≤ y) ∧ Off (b0 :: bs) w w' := by
  obtain ⟨hx1, hx2, hx3, hL, hH, -, -⟩ := sg_ok hown hx
  have a0 := fun k (_ : k < 8) => sgP_ok xss (part := 0) (by omega) (hown 0 (by omega)) k
  have a1 := fun k (_ : k < 8) => (sgP_ok xss (part := 1) (by omega) (hown 1 (by omega)) k).1
  have a2 := fun k (_ : k < 8) => sgP_ok xss (part := 2) (by omega) (hown 2 (by omega)) k
  have a3 := fun k (_ : k < 8) => (sgP_ok xss (part := 3) (by omega) (hown 3 (by omega)) k).1
  have hlen : ∀ part k, ((2 : Int) :: sgP xss part k).length = 17 := fun part k => by rw [List.length_cons]; unfold sgP shV; simp
  have hy2 : NetB (m + 84 + 84) (sgY2 xss x) := by
    unfold sgY2
    split
    · exact hx1.mono (by omega)
    · exact hx2
  have KP := fun (part : Nat) (hp : part < 4) W => impl_bitsOfPart xss part W hsq hp hbd
  have KP0 := KP 0 (by omega)
  have KP1 := KP 1 (by omega)
  have KP2 := KP 2 (by omega)
  have KP3 := KP 3 (by omega)
  simp only [shB_bits] at KP0 KP1 KP2 KP3
  have KA1 := fun W (hN : NetIn W b0 x bs) => impl_addBits (fun k => 2 :: sgP xss 0 k) (fun k => 2 :: sgP xss 1 k) (sgP xss 0) (sgP xss 1) b0 x bs m W hN hx (by omega) (fun k _ => hlen 0 k) (fun k _ => hlen 1 k) (fun _ k hk => ⟨rfl, a0 k hk⟩) (fun _ k hk => ⟨rfl, a1 k hk⟩)
  have KA2 := fun W cs (hN : NetIn W b0 (sgX1 xss x) cs) => impl_addBits (fun k => 2 :: sgP xss 2 k) (fun k => 2 :: sgP xss 3 k) (sgP xss 2) (sgP xss 3) b0 (sgX1 xss x) cs (m + 84) W hN hx1 (by omega) (fun k _ => hlen 2 k) (fun k _ => hlen 3 k) (fun _ k hk => ⟨rfl, a2 k hk⟩) (fun _ k hk => ⟨rfl, a3 k hk⟩)
  have KA3 := fun R1 R2 W cs (hN : NetIn W b0 (sgY2 xss x) cs) hl1 hl2 hA hB => impl_addBits R1 R2 (sgL xss x) (sgH xss x) b0 (sgY2 xss x) cs (m + 84 + 84) W hN hy2 (by omega) hl1 hl2 hA hB
  have HL8 : Hid (∀ k, k < 8 → Ok16 2 (sgL xss x k) ∧ Own0 (sgL xss x k)) := hL
  have HH8 : Hid (∀ k, k < 8 → Ok16 2 (sgH xss x k)) := fun k hk => (hH k hk).1
  have HY3 : Hid ((if (sgY2 xss x).xQuarrel.xSome = true then sgY2 xss x else adR (sgL xss x) (sgH xss x) (sgY2 xss x)) = sgX xss x) := sgY3 xss x
  have HY2 : Hid ((sgY2 xss x).xQuarrel.xSome = false → (sgX1 xss x).xQuarrel.xSome = false ∧ (sgX2 xss x).xQuarrel.xSome = false ∧ sgY2 xss x = sgX2 xss x) := sgY2_no
  have HSX : Hid ((sgX xss x).xQuarrel.xSome = false → (sgY2 xss x).xQuarrel.xSome = false) := fun h => by
    cases h2 : (sgY2 xss x).xQuarrel.xSome
    · rfl
    · have e := sgY3 xss x
      rw [if_pos h2] at e
      rw [← e, h2] at h
      cases h
  have HQ0 : Hid (x.xQuarrel.xSome = false) := hq0
  have HF1 : Hid (xss.flatten.length = 16) := flat_len hsq
  have HF : Hid (((256 : Int) :: xss.flatten).length = 17) := by show _ = _; rw [List.length_cons, HF1.out]
  have HBL : Hid (∀ P : Nat → List Int, (shB P).length = 136) := shB_len
  have HA0 : Hid (Value.agg (cells1 (shB fun k => 2 :: sgP xss 0 k)) = Value.agg (cells1 (shB fun k => 2 :: sgP xss 0 k))) := rfl
  generalize Value.agg (cells1 (shB fun k => 2 :: sgP xss 0 k)) = vb0 at *
  generalize Value.agg (cells1 (shB fun k => 2 :: sgP xss 1 k)) = vb1 at *
  generalize Value.agg (cells1 (shB fun k => 2 :: sgP xss 2 k)) = vb2 at *
  generalize Value.agg (cells1 (shB fun k => 2 :: sgP xss 3 k)) = vb3 at *
  clear hx hx1 hx2 hx3 hL hH a0 a1 a2 a3 hlen hy2 hq0 hsq hbd hown KP HA0
  have lN := N.lt
  have lNs := N.lts
  have S0 : Blk ((w.alloc (.cells (cells1 (256 :: xss.flatten)) 87)).alloc (.cells #[.int .i64 0, .int .i64 0, .int .i64 0, .int .i64 0, .int .i64 0, .int .i64 0, .int .i64 0, .int .i64 0, .int .i64 0, .int .i64 0, .int .i64 0, .int .i64 0, .int .i64 0, .int .i64 0, .int .i64 0, .int .i64 0, .int .i64 0] 87)) w.heap.size 87 (cells1 (256 :: xss.flatten)) := (Blk.new w _ _).alloc _
  have R0 : Blk ((w.alloc (.cells (cells1 (256 :: xss.flatten)) 87)).alloc (.cells #[.int .i64 0, .int .i64 0, .int .i64 0, .int .i64 0, .int .i64 0, .int .i64 0, .int .i64 0, .int .i64 0, .int .i64 0, .int .i64 0, .int .i64 0, .int .i64 0, .int .i64 0, .int .i64 0, .int .i64 0, .int .i64 0, .int .i64 0] 87)) (w.heap.size + 1) 87 #[.int .i64 0, .int .i64 0, .int .i64 0, .int .i64 0, .int .i64 0, .int .i64 0, .int .i64 0, .int .i64 0, .int .i64 0, .int .i64 0, .int .i64 0, .int .i64 0, .int .i64 0, .int .i64 0, .int .i64 0, .int .i64 0, .int .i64 0] := by simpa using Blk.new (w.alloc (.cells (cells1 (256 :: xss.flatten)) 87)) 87 #[.int .i64 0, .int .i64 0, .int .i64 0, .int .i64 0, .int .i64 0, .int .i64 0, .int .i64 0, .int .i64 0, .int .i64 0, .int .i64 0, .int .i64 0, .int .i64 0, .int .i64 0, .int .i64 0, .int .i64 0, .int .i64 0, .int .i64 0]
  have b2 : Below w.heap.size w ((w.alloc (.cells (cells1 (256 :: xss.flatten)) 87)).alloc (.cells #[.int .i64 0, .int .i64 0, .int .i64 0, .int .i64 0, .int .i64 0, .int .i64 0, .int .i64 0, .int .i64 0, .int .i64 0, .int .i64 0, .int .i64 0, .int .i64 0, .int .i64 0, .int .i64 0, .int .i64 0, .int .i64 0, .int .i64 0] 87)) := (by repeat (first | exact Below.refl _ _ | refine Below.drew ?_ | refine below_drewN ?_ _ | refine Below.setCell ?_ (by first | omega | (simp; done) | (simp; omega)) _ | refine Below.alloc ?_ (by first | omega | (simp; done) | (simp; omega)) _))
  have z2 : Hid ((((w.alloc (.cells (cells1 (256 :: xss.flatten)) 87)).alloc (.cells #[.int .i64 0, .int .i64 0, .int .i64 0, .int .i64 0, .int .i64 0, .int .i64 0, .int .i64 0, .int .i64 0, .int .i64 0, .int .i64 0, .int .i64 0, .int .i64 0, .int .i64 0, .int .i64 0, .int .i64 0, .int .i64 0, .int .i64 0] 87))).heap.size = w.heap.size + 2) := by show _ = _; simp
  have N2 := N.keep b2
  have HRG : Hid (∀ (V : World), Blk V w.heap.size 87 (cells1 (256 :: xss.flatten)) → V.rangeAt w.heap.size 1 (cells1 xss.flatten).toList) := fun V hB => fun j v hv => by rw [hB.at.1, ← hv]; simp [cells1, Nat.add_comm 1 j]
  generalize hxf : xss.flatten = fx at *
  have HXF : Hid (xss.flatten = fx) := hxf
  clear hxf N
  go_enter Tryz.func93, Tryz.ntmps93
  go_upto_region 1 with fail
  generalize ((w.alloc (.cells (cells1 (256 :: fx)) 87)).alloc (.cells #[.int .i64 0, .int .i64 0, .int .i64 0, .int .i64 0, .int .i64 0, .int .i64 0, .int .i64 0, .int .i64 0, .int .i64 0, .int .i64 0, .int .i64 0, .int .i64 0, .int .i64 0, .int .i64 0, .int .i64 0, .int .i64 0, .int .i64 0] 87)) = w2 at *
  have z2o := z2.out
  have P2 : Off (b0 :: bs) w w2 := Off.ofBelow b2
  clear z2 b2
  go_cut [5] from 8 (fun u wz => ∃ g R cs, u = .pointer (some ⟨g, 0, none⟩) ∧ SgMid w2 wz (x.xQuarrel.xSome) (adR (sgP xss 0) (sgP xss 1) x) (adS (sgP xss 0) (sgP xss 1) x) (if x.xQuarrel.xSome = true then x else adR (sgP xss 0) (sgP xss 1) x) b0 bs cs g R)
  case first =>
    refine wp_region_held (S := fun V => V.rangeAt w.heap.size 1 (cells1 fx).toList) (by kernel_rfl) ?_
    try (change wpAnyH _ _ _ _ _ _ _ _ (World.drew _))
    have bd : Below w2.heap.size w2 w2.drew := (Below.refl _ _).drew
    have Nd := N2.keep bd
    have Sd := S0.keep bd
    have hS := HRG.out _ Sd
    have lsd := N2.lts
    have lnd := N2.lt
    have lSd := S0.lt
    have nS : w.heap.size ∉ b0 :: bs := fun hm => by rcases List.mem_cons.1 hm with h | h; omega; (have := lNs _ h; omega)
    generalize w2.drew = ud at *
    refine wpAnyH_take (i := 0) (v := ?vs19) rfl (by kernel_rfl) (by kernel_rfl) (by kernel_rfl) (fun _ _ _ h => h) (Or.inl ⟨by rfl, ?hs19⟩) hS ?rs19
    case hs19 => intro w' hSw; clear hSw; go_simp; (try with_reducible rfl)
    (try simp only [List.getElem_toArray]); (try simp only [List.getElem_cons_succ]); (try simp only [List.getElem_cons_zero]); (try simp only [Act.put]); (try simp only [List.setIfInBounds_toArray]); (try simp only [List.set_cons_succ]); (try simp only [List.set_cons_zero])
    refine wpAnyH_take (i := 1) (v := ?vs20) rfl (by kernel_rfl) (by kernel_rfl) (by kernel_rfl) (fun _ _ _ h => h) (Or.inl ⟨by rfl, ?hs20⟩) hS ?rs20
    case hs20 => intro w' hSw; clear hSw; go_simp; (try with_reducible rfl)
    (try simp only [List.getElem_toArray]); (try simp only [List.getElem_cons_succ]); (try simp only [List.getElem_cons_zero]); (try simp only [Act.put]); (try simp only [List.setIfInBounds_toArray]); (try simp only [List.set_cons_succ]); (try simp only [List.set_cons_zero])
    refine wpAnyH_take (i := 2) (v := .agg (cells1 fx)) rfl (by kernel_rfl) (by kernel_rfl) (by kernel_rfl) (fun _ _ _ h => h) (yieldsIf_load_mid (by rfl) _ _ rfl w.heap.size 1 rfl (cells1 fx).toList _ (fun _ h => h) Tryz.underlying85 rfl (by rw [Array.length_toList, cells1_size, HF1.out]; kernel_rfl)) hS ?_
    (try simp only [List.getElem_toArray]); (try simp only [List.getElem_cons_succ]); (try simp only [List.getElem_cons_zero]); (try simp only [Act.put]); (try simp only [List.setIfInBounds_toArray]); (try simp only [List.set_cons_succ]); (try simp only [List.set_cons_zero])
    refine wpAnyH_take (i := 4) (v := ?vs21) rfl (by kernel_rfl) (by kernel_rfl) (by kernel_rfl) (fun _ _ _ h => h) (Or.inl ⟨by rfl, ?hs21⟩) hS ?rs21
    case hs21 => intro w' hSw; clear hSw; go_simp; (try with_reducible rfl)
    (try simp only [List.getElem_toArray]); (try simp only [List.getElem_cons_succ]); (try simp only [List.getElem_cons_zero]); (try simp only [Act.put]); (try simp only [List.setIfInBounds_toArray]); (try simp only [List.set_cons_succ]); (try simp only [List.set_cons_zero])
    refine wpAnyH_take (i := 5) (v := .agg (cells1 fx)) rfl (by kernel_rfl) (by kernel_rfl) (by kernel_rfl) (fun _ _ _ h => h) (yieldsIf_load_mid (by rfl) _ _ rfl w.heap.size 1 rfl (cells1 fx).toList _ (fun _ h => h) Tryz.underlying85 rfl (by rw [Array.length_toList, cells1_size, HF1.out]; kernel_rfl)) hS ?_
    (try simp only [List.getElem_toArray]); (try simp only [List.getElem_cons_succ]); (try simp only [List.getElem_cons_zero]); (try simp only [Act.put]); (try simp only [List.setIfInBounds_toArray]); (try simp only [List.set_cons_succ]); (try simp only [List.set_cons_zero])
    refine wpAnyH_ready (rs := [3, 8]) (by kernel_rfl) (by simp) ?_
    refine AllReadyH.cons (o := _) rfl (fun K hK => ?_) (AllReadyH.cons (o := _) rfl (fun K hK => ?_) AllReadyH.nil)
    · skip
      rw [if_pos (by rfl)]
      go_simp
      go_at_call 120
      refine (KP0 _).mono ?_
      rintro e us1 ⟨rfl, hb⟩
      have Nz1 := Nd.keep hb
      have Sz1 := Sd.keep hb
      have bz1 := bd.trans (hb.mono bd.size)
      clear hb
      dsimp only
      refine hK.out _ _ (HRG.out _ Sz1) (fun hS => ?_)
      clear hK K
      (try simp only [List.getElem_toArray]); (try simp only [List.getElem_cons_succ]); (try simp only [List.getElem_cons_zero]); (try simp only [Act.put]); (try simp only [List.setIfInBounds_toArray]); (try simp only [List.set_cons_succ]); (try simp only [List.set_cons_zero])
      refine wpAnyH_ready (rs := [6, 8]) (by kernel_rfl) (by simp) ?_
      refine AllReadyH.cons (o := _) rfl (fun K hK => ?_) (AllReadyH.cons (o := _) rfl (fun K hK => ?_) AllReadyH.nil)
      · skip
        rw [if_pos (by rfl)]
        go_simp
        go_at_call 120
        refine (KP1 _).mono ?_
        rintro e us2 ⟨rfl, hb⟩
        have Nz2 := Nz1.keep hb
        have Sz2 := Sz1.keep hb
        have bz2 := bz1.trans (hb.mono bz1.size)
        clear hb
        dsimp only
        refine hK.out _ _ (HRG.out _ Sz2) (fun hS => ?_)
        clear hK K
        (try simp only [List.getElem_toArray]); (try simp only [List.getElem_cons_succ]); (try simp only [List.getElem_cons_zero]); (try simp only [Act.put]); (try simp only [List.setIfInBounds_toArray]); (try simp only [List.set_cons_succ]); (try simp only [List.set_cons_zero])
        refine wpAnyH_ready (rs := [7, 8]) (by kernel_rfl) (by simp) ?_
        refine AllReadyH.cons (o := _) rfl (fun K hK => ?_) (AllReadyH.cons (o := _) rfl (fun K hK => ?_) AllReadyH.nil)
        · skip
          rw [if_pos (by rfl)]
          go_simp
          go_at_call 119
          refine (KA1 _ Nz2).mono ?_
          rintro e us3 ⟨R, rfl, hlR, hsR, cs, Nz3, hcs0, O⟩
          have zb := bz2.size
          have Sz3 := Sz2.off O nS
          have Pz3 : Off (b0 :: bs) w2 us3 := (Off.ofBelow bz2).trans O
          have hcs : ∀ y ∈ cs, y ∈ bs ∨ w2.heap.size ≤ y := fun y hy => by rcases hcs0 y hy with h | h; (exact .inl h); (right; omega)
          clear O hcs0
          dsimp only
          refine hK.out _ _ (HRG.out _ Sz3) (fun hS => ?_)
          clear hK K
          (try simp only [List.getElem_toArray]); (try simp only [List.getElem_cons_succ]); (try simp only [List.getElem_cons_zero]); (try simp only [Act.put]); (try simp only [List.setIfInBounds_toArray]); (try simp only [List.set_cons_succ]); (try simp only [List.set_cons_zero])
          refine wpAnyH_ready (rs := [8]) (by kernel_rfl) (by simp) ?_
          refine AllReadyH.cons (o := _) rfl (fun K hK => ?_) AllReadyH.nil
          have hz := zero_bitsA
          rw [if_pos (by rfl)]
          go_simp
          clear hz
          have Gz4 := Blk.new us3 156 (cells1 (shB fun _ => z17B))
          have hzl : (cells1 (shB fun _ => z17B)).size = 136 := by rw [cells1_size, HBL.out]
          have Sz4 := Sz3.alloc (.cells (cells1 (shB fun _ => z17B)) 156)
          have Nz4 := Nz3.keep ((Below.refl _ _).alloc (Nat.le_refl _) (.cells (cells1 (shB fun _ => z17B)) 156))
          have Pz4 := Pz3.trans (Off.ofBelow ((Below.refl _ _).alloc (Nat.le_refl _) (.cells (cells1 (shB fun _ => z17B)) 156)))
          have lgn : w2.heap.size ≤ us3.heap.size := Pz3.size
          have ngc : us3.heap.size ∉ cs := fun h => by have := Nz3.lts _ h; omega
          generalize us3.alloc (.cells (cells1 (shB fun _ => z17B)) 156) = us4 at *
          generalize us3.heap.size = gn at *
          refine hK.out _ _ (HRG.out _ Sz4) (fun hS => ?_)
          clear hK K
          (try simp only [List.getElem_toArray]); (try simp only [List.getElem_cons_succ]); (try simp only [List.getElem_cons_zero]); (try simp only [Act.put]); (try simp only [List.setIfInBounds_toArray]); (try simp only [List.set_cons_succ]); (try simp only [List.set_cons_zero])
          refine wpAnyH_ready (rs := [9]) (by kernel_rfl) (by simp) ?_
          refine AllReadyH.cons (o := _) rfl (fun K hK => ?_) AllReadyH.nil
          have HBR := HBL.out R
          refine step_store_blk rfl 156 _ _ rfl gn (cells1 (shB R)) rfl rfl Gz4 (by rw [hzl, cells1_size, HBR]) (by rw [cells1_size, HBR]; kernel_rfl) (cells1_one _) ?_
          intro ue Ge Oe
          have Ne := Nz4.off Oe (by simp; omega) (fun y hy hm => by simp at hm; exact ngc (hm ▸ hy))
          have Se := Sz4.off Oe (by simp; omega)
          have Pe := Pz4.mix Oe (fun y hy => by simp at hy; right; omega)
          refine hK.out _ _ (HRG.out _ Se) (fun hS => ?_)
          clear hK K
          (try simp only [List.getElem_toArray]); (try simp only [List.getElem_cons_succ]); (try simp only [List.getElem_cons_zero]); (try simp only [Act.put]); (try simp only [List.setIfInBounds_toArray]); (try simp only [List.set_cons_succ]); (try simp only [List.set_cons_zero])
          refine wpAnyH_done (by kernel_rfl) ?_ _
          clear hS
          go_wp2
          go_meet
          case rel => exact ⟨gn, R, cs, rfl, Ge, Ne, hcs, Pe, hlR, hsR, lgn, ngc⟩
        · skip
          have hz := zero_bitsA
          rw [if_pos (by rfl)]
          go_simp
          clear hz
          have Gz5 := Blk.new us2 156 (cells1 (shB fun _ => z17B))
          have hzl : (cells1 (shB fun _ => z17B)).size = 136 := by rw [cells1_size, HBL.out]
          have Sz5 := Sz2.alloc (.cells (cells1 (shB fun _ => z17B)) 156)
          have Nz5 := Nz2.keep ((Below.refl _ _).alloc (Nat.le_refl _) (.cells (cells1 (shB fun _ => z17B)) 156))
          have bz5 := bz2.alloc bz2.size (.cells (cells1 (shB fun _ => z17B)) 156)
          have lgn : w2.heap.size ≤ us2.heap.size := bz2.size
          generalize us2.alloc (.cells (cells1 (shB fun _ => z17B)) 156) = us5 at *
          generalize us2.heap.size = gn at *
          refine hK.out _ _ (HRG.out _ Sz5) (fun hS => ?_)
          clear hK K
          (try simp only [List.getElem_toArray]); (try simp only [List.getElem_cons_succ]); (try simp only [List.getElem_cons_zero]); (try simp only [Act.put]); (try simp only [List.setIfInBounds_toArray]); (try simp only [List.set_cons_succ]); (try simp only [List.set_cons_zero])
          refine wpAnyH_ready (rs := [7]) (by kernel_rfl) (by simp) ?_
          refine AllReadyH.cons (o := _) rfl (fun K hK => ?_) AllReadyH.nil
          rw [if_pos (by rfl)]
          go_simp
          go_at_call 119
          refine (KA1 _ Nz5).mono ?_
          rintro e us6 ⟨R, rfl, hlR, hsR, cs, Nz6, hcs0, O⟩
          have zb := bz5.size
          have Sz6 := Sz5.off O nS
          have Pz6 : Off (b0 :: bs) w2 us6 := (Off.ofBelow bz5).trans O
          have hcs : ∀ y ∈ cs, y ∈ bs ∨ w2.heap.size ≤ y := fun y hy => by rcases hcs0 y hy with h | h; (exact .inl h); (right; omega)
          have Gz6 := Gz5.off O (fun hm => by rcases List.mem_cons.1 hm with h | h; omega; (have := lsd _ h; omega))
          have lgG := Gz5.lt
          have ngc : gn ∉ cs := fun h => by rcases hcs0 _ h with h2 | h2; (have := lsd _ h2; omega); omega
          clear O hcs0
          dsimp only
          refine hK.out _ _ (HRG.out _ Sz6) (fun hS => ?_)
          clear hK K
          (try simp only [List.getElem_toArray]); (try simp only [List.getElem_cons_succ]); (try simp only [List.getElem_cons_zero]); (try simp only [Act.put]); (try simp only [List.setIfInBounds_toArray]); (try simp only [List.set_cons_succ]); (try simp only [List.set_cons_zero])
          refine wpAnyH_ready (rs := [9]) (by kernel_rfl) (by simp) ?_
          refine AllReadyH.cons (o := _) rfl (fun K hK => ?_) AllReadyH.nil
          have HBR := HBL.out R
          refine step_store_blk rfl 156 _ _ rfl gn (cells1 (shB R)) rfl rfl Gz6 (by rw [hzl, cells1_size, HBR]) (by rw [cells1_size, HBR]; kernel_rfl) (cells1_one _) ?_
          intro ue Ge Oe
          have Ne := Nz6.off Oe (by simp; omega) (fun y hy hm => by simp at hm; exact ngc (hm ▸ hy))
          have Se := Sz6.off Oe (by simp; omega)
          have Pe := Pz6.mix Oe (fun y hy => by simp at hy; right; omega)
          refine hK.out _ _ (HRG.out _ Se) (fun hS => ?_)
          clear hK K
          (try simp only [List.getElem_toArray]); (try simp only [List.getElem_cons_succ]); (try simp only [List.getElem_cons_zero]); (try simp only [Act.put]); (try simp only [List.setIfInBounds_toArray]); (try simp only [List.set_cons_succ]); (try simp only [List.set_cons_zero])
          refine wpAnyH_done (by kernel_rfl) ?_ _
          clear hS
          go_wp2
          go_meet
          case rel => exact ⟨gn, R, cs, rfl, Ge, Ne, hcs, Pe, hlR, hsR, lgn, ngc⟩
      · skip
        have hz := zero_bitsA
        rw [if_pos (by rfl)]
        go_simp
        clear hz
        have Gz7 := Blk.new us1 156 (cells1 (shB fun _ => z17B))
        have hzl : (cells1 (shB fun _ => z17B)).size = 136 := by rw [cells1_size, HBL.out]
        have Sz7 := Sz1.alloc (.cells (cells1 (shB fun _ => z17B)) 156)
        have Nz7 := Nz1.keep ((Below.refl _ _).alloc (Nat.le_refl _) (.cells (cells1 (shB fun _ => z17B)) 156))
        have bz7 := bz1.alloc bz1.size (.cells (cells1 (shB fun _ => z17B)) 156)
        have lgn : w2.heap.size ≤ us1.heap.size := bz1.size
        generalize us1.alloc (.cells (cells1 (shB fun _ => z17B)) 156) = us7 at *
        generalize us1.heap.size = gn at *
        refine hK.out _ _ (HRG.out _ Sz7) (fun hS => ?_)
        clear hK K
        (try simp only [List.getElem_toArray]); (try simp only [List.getElem_cons_succ]); (try simp only [List.getElem_cons_zero]); (try simp only [Act.put]); (try simp only [List.setIfInBounds_toArray]); (try simp only [List.set_cons_succ]); (try simp only [List.set_cons_zero])
        refine wpAnyH_ready (rs := [6]) (by kernel_rfl) (by simp) ?_
        refine AllReadyH.cons (o := _) rfl (fun K hK => ?_) AllReadyH.nil
        rw [if_pos (by rfl)]
        go_simp
        go_at_call 120
        refine (KP1 _).mono ?_
        rintro e us8 ⟨rfl, hb⟩
        have Nz8 := Nz7.keep hb
        have Sz8 := Sz7.keep hb
        have bz8 := bz7.trans (hb.mono bz7.size)
        have Gz8 := Gz7.keep hb
        clear hb
        dsimp only
        refine hK.out _ _ (HRG.out _ Sz8) (fun hS => ?_)
        clear hK K
        (try simp only [List.getElem_toArray]); (try simp only [List.getElem_cons_succ]); (try simp only [List.getElem_cons_zero]); (try simp only [Act.put]); (try simp only [List.setIfInBounds_toArray]); (try simp only [List.set_cons_succ]); (try simp only [List.set_cons_zero])
        refine wpAnyH_ready (rs := [7]) (by kernel_rfl) (by simp) ?_
        refine AllReadyH.cons (o := _) rfl (fun K hK => ?_) AllReadyH.nil
        rw [if_pos (by rfl)]
        go_simp
        go_at_call 119
        refine (KA1 _ Nz8).mono ?_
        rintro e us9 ⟨R, rfl, hlR, hsR, cs, Nz9, hcs0, O⟩
        have zb := bz8.size
        have Sz9 := Sz8.off O nS
        have Pz9 : Off (b0 :: bs) w2 us9 := (Off.ofBelow bz8).trans O
        have hcs : ∀ y ∈ cs, y ∈ bs ∨ w2.heap.size ≤ y := fun y hy => by rcases hcs0 y hy with h | h; (exact .inl h); (right; omega)
        have Gz9 := Gz8.off O (fun hm => by rcases List.mem_cons.1 hm with h | h; omega; (have := lsd _ h; omega))
        have lgG := Gz8.lt
        have ngc : gn ∉ cs := fun h => by rcases hcs0 _ h with h2 | h2; (have := lsd _ h2; omega); omega
        clear O hcs0
        dsimp only
        refine hK.out _ _ (HRG.out _ Sz9) (fun hS => ?_)
        clear hK K
        (try simp only [List.getElem_toArray]); (try simp only [List.getElem_cons_succ]); (try simp only [List.getElem_cons_zero]); (try simp only [Act.put]); (try simp only [List.setIfInBounds_toArray]); (try simp only [List.set_cons_succ]); (try simp only [List.set_cons_zero])
        refine wpAnyH_ready (rs := [9]) (by kernel_rfl) (by simp) ?_
        refine AllReadyH.cons (o := _) rfl (fun K hK => ?_) AllReadyH.nil
        have HBR := HBL.out R
        refine step_store_blk rfl 156 _ _ rfl gn (cells1 (shB R)) rfl rfl Gz9 (by rw [hzl, cells1_size, HBR]) (by rw [cells1_size, HBR]; kernel_rfl) (cells1_one _) ?_
        intro ue Ge Oe
        have Ne := Nz9.off Oe (by simp; omega) (fun y hy hm => by simp at hm; exact ngc (hm ▸ hy))
        have Se := Sz9.off Oe (by simp; omega)
        have Pe := Pz9.mix Oe (fun y hy => by simp at hy; right; omega)
        refine hK.out _ _ (HRG.out _ Se) (fun hS => ?_)
        clear hK K
        (try simp only [List.getElem_toArray]); (try simp only [List.getElem_cons_succ]); (try simp only [List.getElem_cons_zero]); (try simp only [Act.put]); (try simp only [List.setIfInBounds_toArray]); (try simp only [List.set_cons_succ]); (try simp only [List.set_cons_zero])
        refine wpAnyH_done (by kernel_rfl) ?_ _
        clear hS
        go_wp2
        go_meet
        case rel => exact ⟨gn, R, cs, rfl, Ge, Ne, hcs, Pe, hlR, hsR, lgn, ngc⟩
    · skip
      have hz := zero_bitsA
      rw [if_pos (by rfl)]
      go_simp
      clear hz
      have Gz10 := Blk.new ud 156 (cells1 (shB fun _ => z17B))
      have hzl : (cells1 (shB fun _ => z17B)).size = 136 := by rw [cells1_size, HBL.out]
      have Sz10 := Sd.alloc (.cells (cells1 (shB fun _ => z17B)) 156)
      have Nz10 := Nd.keep ((Below.refl _ _).alloc (Nat.le_refl _) (.cells (cells1 (shB fun _ => z17B)) 156))
      have bz10 := bd.alloc bd.size (.cells (cells1 (shB fun _ => z17B)) 156)
      have lgn : w2.heap.size ≤ ud.heap.size := bd.size
      generalize ud.alloc (.cells (cells1 (shB fun _ => z17B)) 156) = us10 at *
      generalize ud.heap.size = gn at *
      refine hK.out _ _ (HRG.out _ Sz10) (fun hS => ?_)
      clear hK K
      (try simp only [List.getElem_toArray]); (try simp only [List.getElem_cons_succ]); (try simp only [List.getElem_cons_zero]); (try simp only [Act.put]); (try simp only [List.setIfInBounds_toArray]); (try simp only [List.set_cons_succ]); (try simp only [List.set_cons_zero])
      refine wpAnyH_ready (rs := [3]) (by kernel_rfl) (by simp) ?_
      refine AllReadyH.cons (o := _) rfl (fun K hK => ?_) AllReadyH.nil
      rw [if_pos (by rfl)]
      go_simp
      go_at_call 120
      refine (KP0 _).mono ?_
      rintro e us11 ⟨rfl, hb⟩
      have Nz11 := Nz10.keep hb
      have Sz11 := Sz10.keep hb
      have bz11 := bz10.trans (hb.mono bz10.size)
      have Gz11 := Gz10.keep hb
      clear hb
      dsimp only
      refine hK.out _ _ (HRG.out _ Sz11) (fun hS => ?_)
      clear hK K
      (try simp only [List.getElem_toArray]); (try simp only [List.getElem_cons_succ]); (try simp only [List.getElem_cons_zero]); (try simp only [Act.put]); (try simp only [List.setIfInBounds_toArray]); (try simp only [List.set_cons_succ]); (try simp only [List.set_cons_zero])
      refine wpAnyH_ready (rs := [6]) (by kernel_rfl) (by simp) ?_
      refine AllReadyH.cons (o := _) rfl (fun K hK => ?_) AllReadyH.nil
      rw [if_pos (by rfl)]
      go_simp
      go_at_call 120
      refine (KP1 _).mono ?_
      rintro e us12 ⟨rfl, hb⟩
      have Nz12 := Nz11.keep hb
      have Sz12 := Sz11.keep hb
      have bz12 := bz11.trans (hb.mono bz11.size)
      have Gz12 := Gz11.keep hb
      clear hb
      dsimp only
      refine hK.out _ _ (HRG.out _ Sz12) (fun hS => ?_)
      clear hK K
      (try simp only [List.getElem_toArray]); (try simp only [List.getElem_cons_succ]); (try simp only [List.getElem_cons_zero]); (try simp only [Act.put]); (try simp only [List.setIfInBounds_toArray]); (try simp only [List.set_cons_succ]); (try simp only [List.set_cons_zero])
      refine wpAnyH_ready (rs := [7]) (by kernel_rfl) (by simp) ?_
      refine AllReadyH.cons (o := _) rfl (fun K hK => ?_) AllReadyH.nil
      rw [if_pos (by rfl)]
      go_simp
      go_at_call 119
      refine (KA1 _ Nz12).mono ?_
      rintro e us13 ⟨R, rfl, hlR, hsR, cs, Nz13, hcs0, O⟩
      have zb := bz12.size
      have Sz13 := Sz12.off O nS
      have Pz13 : Off (b0 :: bs) w2 us13 := (Off.ofBelow bz12).trans O
      have hcs : ∀ y ∈ cs, y ∈ bs ∨ w2.heap.size ≤ y := fun y hy => by rcases hcs0 y hy with h | h; (exact .inl h); (right; omega)
      have Gz13 := Gz12.off O (fun hm => by rcases List.mem_cons.1 hm with h | h; omega; (have := lsd _ h; omega))
      have lgG := Gz12.lt
      have ngc : gn ∉ cs := fun h => by rcases hcs0 _ h with h2 | h2; (have := lsd _ h2; omega); omega
      clear O hcs0
      dsimp only
      refine hK.out _ _ (HRG.out _ Sz13) (fun hS => ?_)
      clear hK K
      (try simp only [List.getElem_toArray]); (try simp only [List.getElem_cons_succ]); (try simp only [List.getElem_cons_zero]); (try simp only [Act.put]); (try simp only [List.setIfInBounds_toArray]); (try simp only [List.set_cons_succ]); (try simp only [List.set_cons_zero])
      refine wpAnyH_ready (rs := [9]) (by kernel_rfl) (by simp) ?_
      refine AllReadyH.cons (o := _) rfl (fun K hK => ?_) AllReadyH.nil
      have HBR := HBL.out R
      refine step_store_blk rfl 156 _ _ rfl gn (cells1 (shB R)) rfl rfl Gz13 (by rw [hzl, cells1_size, HBR]) (by rw [cells1_size, HBR]; kernel_rfl) (cells1_one _) ?_
      intro ue Ge Oe
      have Ne := Nz13.off Oe (by simp; omega) (fun y hy hm => by simp at hm; exact ngc (hm ▸ hy))
      have Se := Sz13.off Oe (by simp; omega)
      have Pe := Pz13.mix Oe (fun y hy => by simp at hy; right; omega)
      refine hK.out _ _ (HRG.out _ Se) (fun hS => ?_)
      clear hK K
      (try simp only [List.getElem_toArray]); (try simp only [List.getElem_cons_succ]); (try simp only [List.getElem_cons_zero]); (try simp only [Act.put]); (try simp only [List.setIfInBounds_toArray]); (try simp only [List.set_cons_succ]); (try simp only [List.set_cons_zero])
      refine wpAnyH_done (by kernel_rfl) ?_ _
      clear hS
      go_wp2
      go_meet
      case rel => exact ⟨gn, R, cs, rfl, Ge, Ne, hcs, Pe, hlR, hsR, lgn, ngc⟩
  case rest =>
    obtain ⟨g1, R1, cs1, rfl, G1, N3, hc1, P3, hl1, hs1, hg1, hgc1⟩ := hcut
    obtain ⟨w3, eu⟩ : ∃ x : World, x = wc := ⟨_, rfl⟩
    subst eu
    have e1 : (if x.xQuarrel.xSome = true then x else adR (sgP xss 0) (sgP xss 1) x) = sgX1 xss x := by rw [if_neg (by rw [HQ0.out]; decide)]; rfl
    rw [e1] at N3
    have HS1 : Hid ((sgX1 xss x).xQuarrel.xSome = false → ∀ k, k < 8 → R1 k = 2 :: sgL xss x k) := hs1 HQ0.out
    have nh : ∀ y, w.heap.size ≤ y → y < w2.heap.size → y ∉ b0 :: cs1 := fun y h1 h2 hm => by rcases List.mem_cons.1 hm with h | h; omega; (rcases hc1 _ h with h3 | h3; (have := lNs _ h3; omega); omega)
    have zP3 := P3.size
    have S3 := S0.off P3 (fun hm => by rcases List.mem_cons.1 hm with h | h; omega; (have := lNs _ h; omega))
    have R3 := R0.off P3 (fun hm => by rcases List.mem_cons.1 hm with h | h; omega; (have := lNs _ h; omega))
    have PW3 : Off (b0 :: bs) w w3 := P2.trans P3
    have l3 := G1.lt
    have ln3 := N3.lt
    have ls3 := N3.lts
    clear S0 R0 N2 KA1 KP0 KP1 e1 hs1
    go_wp2_with fail
    go_cut [6] from 16 (fun u wz => ∃ g R cs, u = .pointer (some ⟨g, 0, none⟩) ∧ SgMid w3 wz ((sgX1 xss x).xQuarrel.xSome) (adR (sgP xss 2) (sgP xss 3) (sgX1 xss x)) (adS (sgP xss 2) (sgP xss 3) (sgX1 xss x)) (if (sgX1 xss x).xQuarrel.xSome = true then sgX1 xss x else adR (sgP xss 2) (sgP xss 3) (sgX1 xss x)) b0 cs1 cs g R)
    case first =>
      refine wp_region_held (S := fun V => V.rangeAt w.heap.size 1 (cells1 fx).toList) (by kernel_rfl) ?_
      try (change wpAnyH _ _ _ _ _ _ _ _ (World.drew _))
      have bd : Below w3.heap.size w3 w3.drew := (Below.refl _ _).drew
      have Nd := N3.keep bd
      have Sd := S3.keep bd
      have hS := HRG.out _ Sd
      have lsd := N3.lts
      have lnd := N3.lt
      have lSd := S3.lt
      have nS : w.heap.size ∉ b0 :: cs1 := fun hm => by rcases List.mem_cons.1 hm with h | h; omega; (rcases hc1 _ h with h3 | h3; (have := lNs _ h3; omega); omega)
      generalize w3.drew = ud at *
      refine wpAnyH_take (i := 0) (v := ?vs22) rfl (by kernel_rfl) (by kernel_rfl) (by kernel_rfl) (fun _ _ _ h => h) (Or.inl ⟨by rfl, ?hs22⟩) hS ?rs22
      case hs22 => intro w' hSw; clear hSw; go_simp; (try with_reducible rfl)
      (try simp only [List.getElem_toArray]); (try simp only [List.getElem_cons_succ]); (try simp only [List.getElem_cons_zero]); (try simp only [Act.put]); (try simp only [List.setIfInBounds_toArray]); (try simp only [List.set_cons_succ]); (try simp only [List.set_cons_zero])
      refine wpAnyH_take (i := 1) (v := ?vs23) rfl (by kernel_rfl) (by kernel_rfl) (by kernel_rfl) (fun _ _ _ h => h) (Or.inl ⟨by rfl, ?hs23⟩) hS ?rs23
      case hs23 => intro w' hSw; clear hSw; go_simp; (try with_reducible rfl)
      (try simp only [List.getElem_toArray]); (try simp only [List.getElem_cons_succ]); (try simp only [List.getElem_cons_zero]); (try simp only [Act.put]); (try simp only [List.setIfInBounds_toArray]); (try simp only [List.set_cons_succ]); (try simp only [List.set_cons_zero])
      refine wpAnyH_take (i := 2) (v := .agg (cells1 fx)) rfl (by kernel_rfl) (by kernel_rfl) (by kernel_rfl) (fun _ _ _ h => h) (yieldsIf_load_mid (by rfl) _ _ rfl w.heap.size 1 rfl (cells1 fx).toList _ (fun _ h => h) Tryz.underlying85 rfl (by rw [Array.length_toList, cells1_size, HF1.out]; kernel_rfl)) hS ?_
      (try simp only [List.getElem_toArray]); (try simp only [List.getElem_cons_succ]); (try simp only [List.getElem_cons_zero]); (try simp only [Act.put]); (try simp only [List.setIfInBounds_toArray]); (try simp only [List.set_cons_succ]); (try simp only [List.set_cons_zero])
      refine wpAnyH_take (i := 4) (v := ?vs24) rfl (by kernel_rfl) (by kernel_rfl) (by kernel_rfl) (fun _ _ _ h => h) (Or.inl ⟨by rfl, ?hs24⟩) hS ?rs24
      case hs24 => intro w' hSw; clear hSw; go_simp; (try with_reducible rfl)
      (try simp only [List.getElem_toArray]); (try simp only [List.getElem_cons_succ]); (try simp only [List.getElem_cons_zero]); (try simp only [Act.put]); (try simp only [List.setIfInBounds_toArray]); (try simp only [List.set_cons_succ]); (try simp only [List.set_cons_zero])
      refine wpAnyH_take (i := 5) (v := .agg (cells1 fx)) rfl (by kernel_rfl) (by kernel_rfl) (by kernel_rfl) (fun _ _ _ h => h) (yieldsIf_load_mid (by rfl) _ _ rfl w.heap.size 1 rfl (cells1 fx).toList _ (fun _ h => h) Tryz.underlying85 rfl (by rw [Array.length_toList, cells1_size, HF1.out]; kernel_rfl)) hS ?_
      (try simp only [List.getElem_toArray]); (try simp only [List.getElem_cons_succ]); (try simp only [List.getElem_cons_zero]); (try simp only [Act.put]); (try simp only [List.setIfInBounds_toArray]); (try simp only [List.set_cons_succ]); (try simp only [List.set_cons_zero])
      refine wpAnyH_ready (rs := [3, 8]) (by kernel_rfl) (by simp) ?_
      refine AllReadyH.cons (o := _) rfl (fun K hK => ?_) (AllReadyH.cons (o := _) rfl (fun K hK => ?_) AllReadyH.nil)
      · skip
        rw [if_pos (by rfl)]
        go_simp
        go_at_call 120
        refine (KP2 _).mono ?_
        rintro e us14 ⟨rfl, hb⟩
        have Nz14 := Nd.keep hb
        have Sz14 := Sd.keep hb
        have bz14 := bd.trans (hb.mono bd.size)
        clear hb
        dsimp only
        refine hK.out _ _ (HRG.out _ Sz14) (fun hS => ?_)
        clear hK K
        (try simp only [List.getElem_toArray]); (try simp only [List.getElem_cons_succ]); (try simp only [List.getElem_cons_zero]); (try simp only [Act.put]); (try simp only [List.setIfInBounds_toArray]); (try simp only [List.set_cons_succ]); (try simp only [List.set_cons_zero])
        refine wpAnyH_ready (rs := [6, 8]) (by kernel_rfl) (by simp) ?_
        refine AllReadyH.cons (o := _) rfl (fun K hK => ?_) (AllReadyH.cons (o := _) rfl (fun K hK => ?_) AllReadyH.nil)
        · skip
          rw [if_pos (by rfl)]
          go_simp
          go_at_call 120
          refine (KP3 _).mono ?_
          rintro e us15 ⟨rfl, hb⟩
          have Nz15 := Nz14.keep hb
          have Sz15 := Sz14.keep hb
          have bz15 := bz14.trans (hb.mono bz14.size)
          clear hb
          dsimp only
          refine hK.out _ _ (HRG.out _ Sz15) (fun hS => ?_)
          clear hK K
          (try simp only [List.getElem_toArray]); (try simp only [List.getElem_cons_succ]); (try simp only [List.getElem_cons_zero]); (try simp only [Act.put]); (try simp only [List.setIfInBounds_toArray]); (try simp only [List.set_cons_succ]); (try simp only [List.set_cons_zero])
          refine wpAnyH_ready (rs := [7, 8]) (by kernel_rfl) (by simp) ?_
          refine AllReadyH.cons (o := _) rfl (fun K hK => ?_) (AllReadyH.cons (o := _) rfl (fun K hK => ?_) AllReadyH.nil)
          · skip
            rw [if_pos (by rfl)]
            go_simp
            go_at_call 119
            refine (KA2 _ _ Nz15).mono ?_
            rintro e us16 ⟨R, rfl, hlR, hsR, cs, Nz16, hcs0, O⟩
            have zb := bz15.size
            have Sz16 := Sz15.off O nS
            have Pz16 : Off (b0 :: cs1) w3 us16 := (Off.ofBelow bz15).trans O
            have hcs : ∀ y ∈ cs, y ∈ cs1 ∨ w3.heap.size ≤ y := fun y hy => by rcases hcs0 y hy with h | h; (exact .inl h); (right; omega)
            clear O hcs0
            dsimp only
            refine hK.out _ _ (HRG.out _ Sz16) (fun hS => ?_)
            clear hK K
            (try simp only [List.getElem_toArray]); (try simp only [List.getElem_cons_succ]); (try simp only [List.getElem_cons_zero]); (try simp only [Act.put]); (try simp only [List.setIfInBounds_toArray]); (try simp only [List.set_cons_succ]); (try simp only [List.set_cons_zero])
            refine wpAnyH_ready (rs := [8]) (by kernel_rfl) (by simp) ?_
            refine AllReadyH.cons (o := _) rfl (fun K hK => ?_) AllReadyH.nil
            have hz := zero_bitsA
            rw [if_pos (by rfl)]
            go_simp
            clear hz
            have Gz17 := Blk.new us16 156 (cells1 (shB fun _ => z17B))
            have hzl : (cells1 (shB fun _ => z17B)).size = 136 := by rw [cells1_size, HBL.out]
            have Sz17 := Sz16.alloc (.cells (cells1 (shB fun _ => z17B)) 156)
            have Nz17 := Nz16.keep ((Below.refl _ _).alloc (Nat.le_refl _) (.cells (cells1 (shB fun _ => z17B)) 156))
            have Pz17 := Pz16.trans (Off.ofBelow ((Below.refl _ _).alloc (Nat.le_refl _) (.cells (cells1 (shB fun _ => z17B)) 156)))
            have lgn : w3.heap.size ≤ us16.heap.size := Pz16.size
            have ngc : us16.heap.size ∉ cs := fun h => by have := Nz16.lts _ h; omega
            generalize us16.alloc (.cells (cells1 (shB fun _ => z17B)) 156) = us17 at *
            generalize us16.heap.size = gn at *
            refine hK.out _ _ (HRG.out _ Sz17) (fun hS => ?_)
            clear hK K
            (try simp only [List.getElem_toArray]); (try simp only [List.getElem_cons_succ]); (try simp only [List.getElem_cons_zero]); (try simp only [Act.put]); (try simp only [List.setIfInBounds_toArray]); (try simp only [List.set_cons_succ]); (try simp only [List.set_cons_zero])
            refine wpAnyH_ready (rs := [9]) (by kernel_rfl) (by simp) ?_
            refine AllReadyH.cons (o := _) rfl (fun K hK => ?_) AllReadyH.nil
            have HBR := HBL.out R
            refine step_store_blk rfl 156 _ _ rfl gn (cells1 (shB R)) rfl rfl Gz17 (by rw [hzl, cells1_size, HBR]) (by rw [cells1_size, HBR]; kernel_rfl) (cells1_one _) ?_
            intro ue Ge Oe
            have Ne := Nz17.off Oe (by simp; omega) (fun y hy hm => by simp at hm; exact ngc (hm ▸ hy))
            have Se := Sz17.off Oe (by simp; omega)
            have Pe := Pz17.mix Oe (fun y hy => by simp at hy; right; omega)
            refine hK.out _ _ (HRG.out _ Se) (fun hS => ?_)
            clear hK K
            (try simp only [List.getElem_toArray]); (try simp only [List.getElem_cons_succ]); (try simp only [List.getElem_cons_zero]); (try simp only [Act.put]); (try simp only [List.setIfInBounds_toArray]); (try simp only [List.set_cons_succ]); (try simp only [List.set_cons_zero])
            refine wpAnyH_done (by kernel_rfl) ?_ _
            clear hS
            go_wp2
            go_meet
            case rel => exact ⟨gn, R, cs, rfl, Ge, Ne, hcs, Pe, hlR, hsR, lgn, ngc⟩
          · skip
            have hz := zero_bitsA
            rw [if_pos (by rfl)]
            go_simp
            clear hz
            have Gz18 := Blk.new us15 156 (cells1 (shB fun _ => z17B))
            have hzl : (cells1 (shB fun _ => z17B)).size = 136 := by rw [cells1_size, HBL.out]
            have Sz18 := Sz15.alloc (.cells (cells1 (shB fun _ => z17B)) 156)
            have Nz18 := Nz15.keep ((Below.refl _ _).alloc (Nat.le_refl _) (.cells (cells1 (shB fun _ => z17B)) 156))
            have bz18 := bz15.alloc bz15.size (.cells (cells1 (shB fun _ => z17B)) 156)
            have lgn : w3.heap.size ≤ us15.heap.size := bz15.size
            generalize us15.alloc (.cells (cells1 (shB fun _ => z17B)) 156) = us18 at *
            generalize us15.heap.size = gn at *
            refine hK.out _ _ (HRG.out _ Sz18) (fun hS => ?_)
            clear hK K
            (try simp only [List.getElem_toArray]); (try simp only [List.getElem_cons_succ]); (try simp only [List.getElem_cons_zero]); (try simp only [Act.put]); (try simp only [List.setIfInBounds_toArray]); (try simp only [List.set_cons_succ]); (try simp only [List.set_cons_zero])
            refine wpAnyH_ready (rs := [7]) (by kernel_rfl) (by simp) ?_
            refine AllReadyH.cons (o := _) rfl (fun K hK => ?_) AllReadyH.nil
            rw [if_pos (by rfl)]
            go_simp
            go_at_call 119
            refine (KA2 _ _ Nz18).mono ?_
            rintro e us19 ⟨R, rfl, hlR, hsR, cs, Nz19, hcs0, O⟩
            have zb := bz18.size
            have Sz19 := Sz18.off O nS
            have Pz19 : Off (b0 :: cs1) w3 us19 := (Off.ofBelow bz18).trans O
            have hcs : ∀ y ∈ cs, y ∈ cs1 ∨ w3.heap.size ≤ y := fun y hy => by rcases hcs0 y hy with h | h; (exact .inl h); (right; omega)
            have Gz19 := Gz18.off O (fun hm => by rcases List.mem_cons.1 hm with h | h; omega; (have := lsd _ h; omega))
            have lgG := Gz18.lt
            have ngc : gn ∉ cs := fun h => by rcases hcs0 _ h with h2 | h2; (have := lsd _ h2; omega); omega
            clear O hcs0
            dsimp only
            refine hK.out _ _ (HRG.out _ Sz19) (fun hS => ?_)
            clear hK K
            (try simp only [List.getElem_toArray]); (try simp only [List.getElem_cons_succ]); (try simp only [List.getElem_cons_zero]); (try simp only [Act.put]); (try simp only [List.setIfInBounds_toArray]); (try simp only [List.set_cons_succ]); (try simp only [List.set_cons_zero])
            refine wpAnyH_ready (rs := [9]) (by kernel_rfl) (by simp) ?_
            refine AllReadyH.cons (o := _) rfl (fun K hK => ?_) AllReadyH.nil
            have HBR := HBL.out R
            refine step_store_blk rfl 156 _ _ rfl gn (cells1 (shB R)) rfl rfl Gz19 (by rw [hzl, cells1_size, HBR]) (by rw [cells1_size, HBR]; kernel_rfl) (cells1_one _) ?_
            intro ue Ge Oe
            have Ne := Nz19.off Oe (by simp; omega) (fun y hy hm => by simp at hm; exact ngc (hm ▸ hy))
            have Se := Sz19.off Oe (by simp; omega)
            have Pe := Pz19.mix Oe (fun y hy => by simp at hy; right; omega)
            refine hK.out _ _ (HRG.out _ Se) (fun hS => ?_)
            clear hK K
            (try simp only [List.getElem_toArray]); (try simp only [List.getElem_cons_succ]); (try simp only [List.getElem_cons_zero]); (try simp only [Act.put]); (try simp only [List.setIfInBounds_toArray]); (try simp only [List.set_cons_succ]); (try simp only [List.set_cons_zero])
            refine wpAnyH_done (by kernel_rfl) ?_ _
            clear hS
            go_wp2
            go_meet
            case rel => exact ⟨gn, R, cs, rfl, Ge, Ne, hcs, Pe, hlR, hsR, lgn, ngc⟩
        · skip
          have hz := zero_bitsA
          rw [if_pos (by rfl)]
          go_simp
          clear hz
          have Gz20 := Blk.new us14 156 (cells1 (shB fun _ => z17B))
          have hzl : (cells1 (shB fun _ => z17B)).size = 136 := by rw [cells1_size, HBL.out]
          have Sz20 := Sz14.alloc (.cells (cells1 (shB fun _ => z17B)) 156)
          have Nz20 := Nz14.keep ((Below.refl _ _).alloc (Nat.le_refl _) (.cells (cells1 (shB fun _ => z17B)) 156))
          have bz20 := bz14.alloc bz14.size (.cells (cells1 (shB fun _ => z17B)) 156)
          have lgn : w3.heap.size ≤ us14.heap.size := bz14.size
          generalize us14.alloc (.cells (cells1 (shB fun _ => z17B)) 156) = us20 at *
          generalize us14.heap.size = gn at *
          refine hK.out _ _ (HRG.out _ Sz20) (fun hS => ?_)
          clear hK K
          (try simp only [List.getElem_toArray]); (try simp only [List.getElem_cons_succ]); (try simp only [List.getElem_cons_zero]); (try simp only [Act.put]); (try simp only [List.setIfInBounds_toArray]); (try simp only [List.set_cons_succ]); (try simp only [List.set_cons_zero])
          refine wpAnyH_ready (rs := [6]) (by kernel_rfl) (by simp) ?_
          refine AllReadyH.cons (o := _) rfl (fun K hK => ?_) AllReadyH.nil
          rw [if_pos (by rfl)]
          go_simp
          go_at_call 120
          refine (KP3 _).mono ?_
          rintro e us21 ⟨rfl, hb⟩
          have Nz21 := Nz20.keep hb
          have Sz21 := Sz20.keep hb
          have bz21 := bz20.trans (hb.mono bz20.size)
          have Gz21 := Gz20.keep hb
          clear hb
          dsimp only
          refine hK.out _ _ (HRG.out _ Sz21) (fun hS => ?_)
          clear hK K
          (try simp only [List.getElem_toArray]); (try simp only [List.getElem_cons_succ]); (try simp only [List.getElem_cons_zero]); (try simp only [Act.put]); (try simp only [List.setIfInBounds_toArray]); (try simp only [List.set_cons_succ]); (try simp only [List.set_cons_zero])
          refine wpAnyH_ready (rs := [7]) (by kernel_rfl) (by simp) ?_
          refine AllReadyH.cons (o := _) rfl (fun K hK => ?_) AllReadyH.nil
          rw [if_pos (by rfl)]
          go_simp
          go_at_call 119
          refine (KA2 _ _ Nz21).mono ?_
          rintro e us22 ⟨R, rfl, hlR, hsR, cs, Nz22, hcs0, O⟩
          have zb := bz21.size
          have Sz22 := Sz21.off O nS
          have Pz22 : Off (b0 :: cs1) w3 us22 := (Off.ofBelow bz21).trans O
          have hcs : ∀ y ∈ cs, y ∈ cs1 ∨ w3.heap.size ≤ y := fun y hy => by rcases hcs0 y hy with h | h; (exact .inl h); (right; omega)
          have Gz22 := Gz21.off O (fun hm => by rcases List.mem_cons.1 hm with h | h; omega; (have := lsd _ h; omega))
          have lgG := Gz21.lt
          have ngc : gn ∉ cs := fun h => by rcases hcs0 _ h with h2 | h2; (have := lsd _ h2; omega); omega
          clear O hcs0
          dsimp only
          refine hK.out _ _ (HRG.out _ Sz22) (fun hS => ?_)
          clear hK K
          (try simp only [List.getElem_toArray]); (try simp only [List.getElem_cons_succ]); (try simp only [List.getElem_cons_zero]); (try simp only [Act.put]); (try simp only [List.setIfInBounds_toArray]); (try simp only [List.set_cons_succ]); (try simp only [List.set_cons_zero])
          refine wpAnyH_ready (rs := [9]) (by kernel_rfl) (by simp) ?_
          refine AllReadyH.cons (o := _) rfl (fun K hK => ?_) AllReadyH.nil
          have HBR := HBL.out R
          refine step_store_blk rfl 156 _ _ rfl gn (cells1 (shB R)) rfl rfl Gz22 (by rw [hzl, cells1_size, HBR]) (by rw [cells1_size, HBR]; kernel_rfl) (cells1_one _) ?_
          intro ue Ge Oe
          have Ne := Nz22.off Oe (by simp; omega) (fun y hy hm => by simp at hm; exact ngc (hm ▸ hy))
          have Se := Sz22.off Oe (by simp; omega)
          have Pe := Pz22.mix Oe (fun y hy => by simp at hy; right; omega)
          refine hK.out _ _ (HRG.out _ Se) (fun hS => ?_)
          clear hK K
          (try simp only [List.getElem_toArray]); (try simp only [List.getElem_cons_succ]); (try simp only [List.getElem_cons_zero]); (try simp only [Act.put]); (try simp only [List.setIfInBounds_toArray]); (try simp only [List.set_cons_succ]); (try simp only [List.set_cons_zero])
          refine wpAnyH_done (by kernel_rfl) ?_ _
          clear hS
          go_wp2
          go_meet
          case rel => exact ⟨gn, R, cs, rfl, Ge, Ne, hcs, Pe, hlR, hsR, lgn, ngc⟩
      · skip
        have hz := zero_bitsA
        rw [if_pos (by rfl)]
        go_simp
        clear hz
        have Gz23 := Blk.new ud 156 (cells1 (shB fun _ => z17B))
        have hzl : (cells1 (shB fun _ => z17B)).size = 136 := by rw [cells1_size, HBL.out]
        have Sz23 := Sd.alloc (.cells (cells1 (shB fun _ => z17B)) 156)
        have Nz23 := Nd.keep ((Below.refl _ _).alloc (Nat.le_refl _) (.cells (cells1 (shB fun _ => z17B)) 156))
        have bz23 := bd.alloc bd.size (.cells (cells1 (shB fun _ => z17B)) 156)
        have lgn : w3.heap.size ≤ ud.heap.size := bd.size
        generalize ud.alloc (.cells (cells1 (shB fun _ => z17B)) 156) = us23 at *
        generalize ud.heap.size = gn at *
        refine hK.out _ _ (HRG.out _ Sz23) (fun hS => ?_)
        clear hK K
        (try simp only [List.getElem_toArray]); (try simp only [List.getElem_cons_succ]); (try simp only [List.getElem_cons_zero]); (try simp only [Act.put]); (try simp only [List.setIfInBounds_toArray]); (try simp only [List.set_cons_succ]); (try simp only [List.set_cons_zero])
        refine wpAnyH_ready (rs := [3]) (by kernel_rfl) (by simp) ?_
        refine AllReadyH.cons (o := _) rfl (fun K hK => ?_) AllReadyH.nil
        rw [if_pos (by rfl)]
        go_simp
        go_at_call 120
        refine (KP2 _).mono ?_
        rintro e us24 ⟨rfl, hb⟩
        have Nz24 := Nz23.keep hb
        have Sz24 := Sz23.keep hb
        have bz24 := bz23.trans (hb.mono bz23.size)
        have Gz24 := Gz23.keep hb
        clear hb
        dsimp only
        refine hK.out _ _ (HRG.out _ Sz24) (fun hS => ?_)
        clear hK K
        (try simp only [List.getElem_toArray]); (try simp only [List.getElem_cons_succ]); (try simp only [List.getElem_cons_zero]); (try simp only [Act.put]); (try simp only [List.setIfInBounds_toArray]); (try simp only [List.set_cons_succ]); (try simp only [List.set_cons_zero])
        refine wpAnyH_ready (rs := [6]) (by kernel_rfl) (by simp) ?_
        refine AllReadyH.cons (o := _) rfl (fun K hK => ?_) AllReadyH.nil
        rw [if_pos (by rfl)]
        go_simp
        go_at_call 120
        refine (KP3 _).mono ?_
        rintro e us25 ⟨rfl, hb⟩
        have Nz25 := Nz24.keep hb
        have Sz25 := Sz24.keep hb
        have bz25 := bz24.trans (hb.mono bz24.size)
        have Gz25 := Gz24.keep hb
        clear hb
        dsimp only
        refine hK.out _ _ (HRG.out _ Sz25) (fun hS => ?_)
        clear hK K
        (try simp only [List.getElem_toArray]); (try simp only [List.getElem_cons_succ]); (try simp only [List.getElem_cons_zero]); (try simp only [Act.put]); (try simp only [List.setIfInBounds_toArray]); (try simp only [List.set_cons_succ]); (try simp only [List.set_cons_zero])
        refine wpAnyH_ready (rs := [7]) (by kernel_rfl) (by simp) ?_
        refine AllReadyH.cons (o := _) rfl (fun K hK => ?_) AllReadyH.nil
        rw [if_pos (by rfl)]
        go_simp
        go_at_call 119
        refine (KA2 _ _ Nz25).mono ?_
        rintro e us26 ⟨R, rfl, hlR, hsR, cs, Nz26, hcs0, O⟩
        have zb := bz25.size
        have Sz26 := Sz25.off O nS
        have Pz26 : Off (b0 :: cs1) w3 us26 := (Off.ofBelow bz25).trans O
        have hcs : ∀ y ∈ cs, y ∈ cs1 ∨ w3.heap.size ≤ y := fun y hy => by rcases hcs0 y hy with h | h; (exact .inl h); (right; omega)
        have Gz26 := Gz25.off O (fun hm => by rcases List.mem_cons.1 hm with h | h; omega; (have := lsd _ h; omega))
        have lgG := Gz25.lt
        have ngc : gn ∉ cs := fun h => by rcases hcs0 _ h with h2 | h2; (have := lsd _ h2; omega); omega
        clear O hcs0
        dsimp only
        refine hK.out _ _ (HRG.out _ Sz26) (fun hS => ?_)
        clear hK K
        (try simp only [List.getElem_toArray]); (try simp only [List.getElem_cons_succ]); (try simp only [List.getElem_cons_zero]); (try simp only [Act.put]); (try simp only [List.setIfInBounds_toArray]); (try simp only [List.set_cons_succ]); (try simp only [List.set_cons_zero])
        refine wpAnyH_ready (rs := [9]) (by kernel_rfl) (by simp) ?_
        refine AllReadyH.cons (o := _) rfl (fun K hK => ?_) AllReadyH.nil
        have HBR := HBL.out R
        refine step_store_blk rfl 156 _ _ rfl gn (cells1 (shB R)) rfl rfl Gz26 (by rw [hzl, cells1_size, HBR]) (by rw [cells1_size, HBR]; kernel_rfl) (cells1_one _) ?_
        intro ue Ge Oe
        have Ne := Nz26.off Oe (by simp; omega) (fun y hy hm => by simp at hm; exact ngc (hm ▸ hy))
        have Se := Sz26.off Oe (by simp; omega)
        have Pe := Pz26.mix Oe (fun y hy => by simp at hy; right; omega)
        refine hK.out _ _ (HRG.out _ Se) (fun hS => ?_)
        clear hK K
        (try simp only [List.getElem_toArray]); (try simp only [List.getElem_cons_succ]); (try simp only [List.getElem_cons_zero]); (try simp only [Act.put]); (try simp only [List.setIfInBounds_toArray]); (try simp only [List.set_cons_succ]); (try simp only [List.set_cons_zero])
        refine wpAnyH_done (by kernel_rfl) ?_ _
        clear hS
        go_wp2
        go_meet
        case rel => exact ⟨gn, R, cs, rfl, Ge, Ne, hcs, Pe, hlR, hsR, lgn, ngc⟩
    case rest =>
      obtain ⟨g2, R2, cs2, rfl, G2, N4, hc2, P4, hl2, hs2, hg2, hgc2⟩ := hcut
      obtain ⟨w4, eu⟩ : ∃ x : World, x = wc := ⟨_, rfl⟩
      subst eu
      have e2 : (if (sgX1 xss x).xQuarrel.xSome = true then sgX1 xss x else adR (sgP xss 2) (sgP xss 3) (sgX1 xss x)) = sgY2 xss x := rfl
      rw [e2] at N4
      have nw : ∀ y, w.heap.size ≤ y → y < w2.heap.size → y ∉ b0 :: cs2 := fun y h1 h2 hm => by rcases List.mem_cons.1 hm with h | h; omega; (rcases hc2 _ h with h3 | h3; (exact nh y h1 h2 (List.mem_cons.2 (.inr h3))); omega)
      have zP4 := P4.size
      have R4 := R3.off P4 (nh _ (by omega) (by omega))
      have G14 := G1.off P4 (fun hm => by rcases List.mem_cons.1 hm with h | h; omega; (exact hgc1 h))
      have PW4 : Off (b0 :: bs) w w4 := PW3.mix P4 (fun y hy => by rcases List.mem_cons.1 hy with h | h; (left; rw [h]; simp); (rcases hc1 y h with h2 | h2; (left; simp [h2]); (right; omega)))
      have hcw2 : ∀ y ∈ cs2, y ∈ bs ∨ w.heap.size + 2 ≤ y := fun y hy => by rcases hc2 y hy with h | h; (rcases hc1 y h with h2 | h2; (exact .inl h2); (right; omega)); (right; omega)
      have KA := KA3 R1 R2 w4 cs2 N4 hl1 hl2 (fun h k hk => ⟨HS1.out (HY2.out h).1 k hk, HL8.out k hk⟩) (fun h k hk => ⟨by have h3 := HY2.out h; exact hs2 h3.1 (by have := h3.2.1; exact this) k hk, HH8.out k hk⟩)
      clear S3 R3 N3 KA2 KA3 KP2 KP3 G1 P3 P4 hs2 e2 N4
      have HB1 := HBL.out R1
      have HB2 := HBL.out R2
      go_wp2_with (first | (refine wpList_load_blk rfl 156 _ rfl g1 rfl G14 Tryz.underlying156 rfl (by rw [cells1_size, HB1]; kernel_rfl) ?_) | (refine wpList_load_blk rfl 156 _ rfl g2 rfl G2 Tryz.underlying156 rfl (by rw [cells1_size, HB2]; kernel_rfl) ?_))
      refine KA.mono ?_
      rintro e w5 ⟨R5, rfl, hl5, hs5, cs5, N5, hc5, P5⟩
      rw [HY3.out] at N5
      have R5b := R4.off P5 (nw _ (by omega) (by omega))
      have zP5 := P5.size
      have PW5 : Off (b0 :: bs) w w5 := PW4.mix P5 (fun y hy => by rcases List.mem_cons.1 hy with h | h; (left; rw [h]; simp); (rcases hcw2 y h with h2 | h2; (left; simp [h2]); (right; omega)))
      have hcw5 : ∀ y ∈ cs5, y ∈ bs ∨ w.heap.size + 2 ≤ y := fun y hy => by rcases hc5 y hy with h | h; (exact hcw2 y h); (right; omega)
      have HB5 := HBL.out R5
      have Tn := Blk.new w5 156 (cells1 (shB fun _ => z17B))
      have hz := zero_bitsA
      have hzl : (cells1 (shB fun _ => z17B)).size = 136 := by rw [cells1_size, HBL.out]
      have l5 := N5.lts
      have ln5 := N5.lt
      generalize cells1 (shB fun _ => z17B) = zl at *
      clear R4 G14 G2 KA P5 PW4 HB1 HB2
      go_upto_region 4 with (refine wpList_store_blk rfl 156 _ _ rfl w5.heap.size (cells1 (shB R5)) rfl rfl Tn (by rw [hzl, cells1_size, HB5]) (by rw [cells1_size, HB5]; kernel_rfl) (cells1_one _) ?_; intro w6 T6 O6)
      have O6' : Off [w5.heap.size] w5 w6 := ((Off.refl _ _).alloc _).trans O6
      have N6 := N5.off O6' (by simp; omega) (fun y hy hm => by have := l5 y hy; simp at hm; omega)
      have R6 := R5b.off O6' (by simp; omega)
      have PW6 := PW5.mix O6' (fun y hy => by simp at hy; right; omega)
      have lT : w.heap.size + 1 < w5.heap.size := by omega
      clear Tn hz hzl O6 O6' N5 R5b PW5 l5 ln5
      generalize w5.heap.size = gT at *
      obtain ⟨q0, gs, e7⟩ : ∃ q0 gs, R5 7 = q0 :: gs := by
        have := hl5 7 (by omega)
        cases h : R5 7 with
        | nil => rw [h] at this; cases this
        | cons a l => exact ⟨a, l, rfl⟩
      have hgl : gs.length = 16 := by have := hl5 7 (by omega); rw [e7, List.length_cons] at this; omega
      have hgq : (sgX xss x).xQuarrel.xSome = false → q0 = 2 ∧ gs = sgF xss x := fun h => by
        have h2 := HSX.out h
        have h3 := HY2.out h2
        have h4 := HY3.out
        rw [if_neg (by rw [h2]; decide)] at h4
        have := hs5 h2 (by rw [h4]; exact h) 7 (by omega)
        rw [e7, h3.2.2] at this
        exact ⟨(List.cons.inj this).1, (List.cons.inj this).2⟩
      have hr7 := shB_range T6 7 (by omega) (hl5 7 (by omega))
      rw [e7] at hr7
      have HQL : Hid ((q0 :: gs).length = 17) := by show _ = _; rw [List.length_cons, hgl]
      clear hs5 hl5 e7 hl1 hl2
      go_wp2_with (first | (refine wpList_load_mid rfl 87 _ rfl gT 119 rfl (cells1 (q0 :: gs)).toList _ hr7 Tryz.underlying87 rfl (by rw [Array.length_toList, cells1_size, HQL.out]; kernel_rfl) ?_) | (refine wpList_store_blk rfl 87 _ _ rfl (w.heap.size + 1) (cells1 (q0 :: gs)) rfl rfl R6 (by rw [cells1_size, HQL.out]; rfl) (by rw [cells1_size, HQL.out]; kernel_rfl) (cells1_one _) ?_; intro w7 R7 O7))
      exact bodyPost_ret (v := .agg (cells1 (q0 :: gs))) (results_blk Tryz.results93 rfl R7 Tryz.underlying87 rfl (by rw [cells1_size, HQL.out]; kernel_rfl)) rfl ⟨q0, gs, cs5, rfl, hgl, hgq, N6.off O7 (by simp; omega) (fun y hy hm => by simp at hm; rcases hcw5 y hy with h | h; (have := lNs _ h; omega); omega), fun y hy => by rcases hcw5 y hy with h | h; (exact .inl h); (right; omega), PW6.mix O7 (fun y hy => by simp at hy; right; omega)⟩
end Go.Proofs.YtepobckhfodngaoGreat
