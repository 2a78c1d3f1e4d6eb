/-
  A bit as a number, in the model: l9Inject.
-/
import Derived.Test.YtepobckhfodngaoGreatIjM
import Derived.Deep.RegionHeld3
import Derived.Deep.Cut
namespace Go.Proofs.YtepobckhfodngaoGreat
open Go.ChangeShapes Go.WideShapes Go.ChangeAt Go.RowKit
set_option linter.unusedVariables false
/-- a net and a mirror told, behind one call of l5Xor -/
def IjMid (w wr : World) (b0 g : Nat) (bs cs bm : List Nat) (x2 : MNet) (F : List Int) (p : Option Addr) (c : Nat) : Prop :=
  Blk wr g 36 #[.int .i64 (mOf x2.xQuarrel.xSome 256 F).xQ, .slice p (mOf x2.xQuarrel.xSome 256 F).xViews.length c] ∧ Mat wr (.slice p (mOf x2.xQuarrel.xSome 256 F).xViews.length c) (mOf x2.xQuarrel.xSome 256 F).xViews bm ∧ (∀ y ∈ bm, w.heap.size ≤ y ∧ y ∉ cs) ∧ w.heap.size ≤ g ∧ g ∉ cs ∧ g ∉ bm ∧ NetIn wr b0 x2 cs ∧ (∀ y ∈ cs, y ∈ bs ∨ w.heap.size ≤ y) ∧ Off (b0 :: bs) w wr
theorem Tryz.infoMj : (Tryz.prog.info? 36).map (fun i => (i.zero, i.size, i.bytes)) = some (some (.agg #[.int .i64 0, .slice none 0 0]), 2, 32) := by kernel_rfl
set_option maxHeartbeats 16000000 in
set_option maxRecDepth 100000 in
theorem spec_l9Inject (b0 b1 : Nat) (x : MNet) (bs : List Nat) (m : Nat) (xss : List (List Int)) (w : World) (N : NetIn w b0 x bs) (B : NetB m x) (hm : m ≤ 199900) (hq0 : x.xQuarrel.xSome = false) (FX : Four w b1 2 xss) (hown : ∀ i, i < 4 → pt xss i i = 0) :
    Calls Tryz.prog 63 #[.pointer (some ⟨b0, 0, none⟩), .pointer (some ⟨b1, 0, none⟩)] w fun e w' => ∃ cs p c bm, e = .returned (.tuple #[.agg #[.int .i64 (mOf (ijX xss.flatten x).xQuarrel.xSome 256 (ijF xss.flatten x)).xQ, .slice p (mOf (ijX xss.flatten x).xQuarrel.xSome 256 (ijF xss.flatten x)).xViews.length c], .bool (!(ijX xss.flatten x).xQuarrel.xSome)]) ∧ Mat w' (.slice p (mOf (ijX xss.flatten x).xQuarrel.xSome 256 (ijF xss.flatten x)).xViews.length c) (mOf (ijX xss.flatten x).xQuarrel.xSome 256 (ijF xss.flatten x)).xViews bm ∧ (∀ y ∈ bm, w.heap.size ≤ y ∧ y ∉ cs) ∧ NetIn w' b0 (ijX xss.flatten x) cs ∧ (∀ y ∈ cs, y ∈ bs ∨ w.heap.size ≤ y) ∧ Off (b0 :: bs) w w' := by
  obtain ⟨iM, hiM, hzM0, hzM1, hzM2⟩ := info_parts Tryz.infoMj
  have hsq : Sq xss := by obtain ⟨_, _, _, h4, h5, _⟩ := FX; exact ⟨h4, h5⟩
  have hbd : ∀ j, 0 ≤ xss.flatten.getD j 0 ∧ xss.flatten.getD j 0 < 256 := by
    obtain ⟨_, _, _, _, _, h⟩ := FX
    exact (sh_ok16 hsq h).2
  have HLK : Hid (∀ k, Ok16 256 (lfF xss.flatten k)) := fun k => lfF_ok hbd k
  have ho : Own0 xss.flatten := fun p hp => by rw [flat_getD hsq p p hp hp]; exact hown p hp
  have HLO : Hid (∀ k, Own0 (lfF xss.flatten k)) := fun k => lfF_own0 k ho
  have KL := fun W k (hk : k < 4) (hb : Below w.heap.size w W) => spec_l9Lift b1 xss k W (FX.below hb) hown hk
  obtain ⟨B1, B2, B3⟩ := ijX_B xss.flatten B
  have HB : Hid (NetB m x ∧ NetB (m + 12) (ijX1 xss.flatten x) ∧ NetB (m + 12 + 12) (ijX2 xss.flatten x)) := ⟨B, B1, B2⟩
  have HAo : Hid (Ok16 256 (ijA xss.flatten x) ∧ Own0 (ijA xss.flatten x) ∧ Ok16 256 (ijB xss.flatten x)) := ⟨xrF_ok _ _ _, xrF_own0 _ (lfF_own0 0 ho) (lfF_own0 1 ho), xrF_ok _ _ _⟩
  clear B B1 B2 B3 FX hown hsq hbd ho
  have HE1 : Hid (prX 256 (lfF xss.flatten 0) (lfF xss.flatten 1) x = ijX1 xss.flatten x ∧ xrF (lfF xss.flatten 0) (lfF xss.flatten 1) x = ijA xss.flatten x) := ⟨rfl, rfl⟩
  have HE2 : Hid (prX 256 (lfF xss.flatten 2) (lfF xss.flatten 3) (ijX1 xss.flatten x) = ijX2 xss.flatten x ∧ xrF (lfF xss.flatten 2) (lfF xss.flatten 3) (ijX1 xss.flatten x) = ijB xss.flatten x) := ⟨rfl, rfl⟩
  have HE3 : Hid (prX 256 (ijA xss.flatten x) (ijB xss.flatten x) (ijX2 xss.flatten x) = ijX3 xss.flatten x ∧ xrF (ijA xss.flatten x) (ijB xss.flatten x) (ijX2 xss.flatten x) = ijF xss.flatten x) := ⟨rfl, rfl⟩
  generalize xss.flatten = fs at *
  have lN := N.lt
  have lNs := N.lts
  obtain ⟨G, hG⟩ : ∃ G : Nat → MMirror, G = fun k => ⟨256, unflat (lfF fs k)⟩ := ⟨_, rfl⟩
  have HG : Hid (∀ k, (G k).xQ = 256 ∧ (G k).xViews = unflat (lfF fs k)) := fun k => by rw [hG]; exact ⟨rfl, rfl⟩
  clear hG
  have B0 : Below w.heap.size w ((w.alloc (.cells #[.int .i64 0, .slice none 0 0] 36)).alloc (.cells #[] 36)) := (by repeat (first | exact Below.refl _ _ | refine Below.drew ?_ | refine below_drewN ?_ _ | refine Below.setCell ?_ (by first | omega | (simp; done) | (simp; omega)) _ | refine Below.alloc ?_ (by first | omega | (simp; done) | (simp; omega)) _))
  have Y0 : Blk ((w.alloc (.cells #[.int .i64 0, .slice none 0 0] 36)).alloc (.cells #[] 36)) w.heap.size 36 #[.int .i64 0, .slice none 0 0] := (Blk.new w _ _).alloc _
  have O0 : LsO (w.heap.size + 1) ((w.alloc (.cells #[.int .i64 0, .slice none 0 0] 36)).alloc (.cells #[] 36)) G 0 (w.heap.size + 1) 0 [] [] := ⟨by simpa [msC] using Own.made (w.alloc (.cells #[.int .i64 0, .slice none 0 0] 36)) 36 2 #[] 0 (by omega) rfl, trivial, by simp, by simp⟩
  go_enter Tryz.func63, Tryz.ntmps63
  go_upto_region 2 with fail
  generalize ((w.alloc (.cells #[.int .i64 0, .slice none 0 0] 36)).alloc (.cells #[] 36)) = w0 at *
  go_wp2
  go_loopw [6, 7] (fun ov i wr => ∃ k g cap : Nat, ∃ us : List Value, ∃ bi : List (List Nat), k ≤ 4 ∧ i = .int .i64 k ∧ ov = .slice (some ⟨g, 0, none⟩) k cap ∧ LsO (w.heap.size + 1) wr G k g cap us bi ∧ Blk wr w.heap.size 36 #[.int .i64 0, .slice none 0 0] ∧ Below w.heap.size w wr) (fun _ i _ => 4 - (intOf i).toNat)
  case atStart => exact ⟨0, _, _, [], [], Nat.zero_le _, rfl, rfl, O0, Y0, B0⟩
  case round =>
    clear O0 B0 Y0
    obtain ⟨k, g, cap, us, bi, hk, rfl, rfl, O, Y, B⟩ := hrel
    by_cases hlt : k < 4
    · have hk1 : (k : Int) < 4 := by omega
      have hk0 : (0 : Int) ≤ (k : Int) := by omega
      have HK4 : Hid (k < 4) := hlt
      have K := KL wr k hlt B
      have HGK := HG.out k
      clear hlt hk
      go_wp2_with fail
      refine K.mono ?_
      rintro e w1 ⟨u, bx, rfl, ⟨pv, cv, rfl, hM⟩, hbx, hb1⟩
      change Mat w1 (.slice pv 4 cv) (unflat (lfF fs k)) bx at hM
      rw [← HGK.2] at hM
      have lo := O.lts
      have O1 := O.off (cs := []) (Off.ofBelow hb1) (by simp)
      have Y1 := Y.keep hb1
      have B1 := B.trans (hb1.mono B.size)
      have hbx2 : ∀ y ∈ bx, y ∉ g :: bi.flatten := fun y hy hc => by have := lo y hc; have := hbx y hy; omega
      have lY := Y.lt
      have hbx3 : ∀ y ∈ bx, w.heap.size + 1 ≤ y := fun y hy => by have := hbx y hy; omega
      have hox := O1.1
      have hy1 := Y1.lt
      clear O Y B hb1 K lo hbx lY
      have hml : ({ xQ := 256, xViews := unflat (lfF fs k) } : MMirror).xViews.length = 4 := rfl
      simp only [hml]
      go_wp2_with (at_builtin; refine wpList_append_Own rfl _ _ 56 rfl 36 iM (.agg #[.int .i64 0, .slice none 0 0]) 2 32 Tryz.underlying56 hiM hzM0 hzM1 hzM2 rfl (by decide) _ _ _ [g] rfl (Own.alloc hox _) ⟨w1.heap.size, 0, none⟩ 1 1 [.int .i64 256, .slice pv 4 cv] rfl rfl ?c1 ?c2 ?c3 ?c4 ?c5 ?_)
      try (case c1 => exact World.news_of_block (Blk.new _ _ _))
      case c2 => exact ⟨rfl, rfl⟩
      try (case c3 => omega)
      case c4 => have := HK4.out; unfold maxLen; omega
      case c5 => have := HK4.out; omega
      intro g3 c3 w10 hO3 hoff hg3
      have O8 : LsO (w.heap.size + 1) w10 G (k + 1) g3 c3 (us ++ [.slice pv 4 cv]) (bi ++ [bx]) := LsO.push (O1.off (cs := []) ((Off.refl _ _).alloc (.cells #[.int .i64 256, .slice pv 4 cv] 36)) (by simp)) (hM.alloc _) hbx2 hbx3 (by simp; omega) (by rw [HGK.1]; exact hO3) hoff (by simpa using hg3)
      have Y8 := (Y1.alloc (.cells #[.int .i64 256, .slice pv 4 cv] 36)).off hoff (fun hm => by simp at hm; have := O1.2.2.2 g (by simp); omega)
      have B8 := (B1.alloc B1.size (.cells #[.int .i64 256, .slice pv 4 cv] 36)).trans (hoff.toBelow (B1.alloc B1.size _).size (fun y hy => by simp at hy; subst hy; have := O1.2.2.2 y (by simp); omega))
      clear hO3 hoff hg3 O1 Y1 B1 hox hM hbx2 hbx3 HGK hy1
      go_wp2
      go_roundw
      case rel => exact ⟨k + 1, _, _, _, _, HK4.out, by go_num, rfl, O8, Y8, B8⟩
      case measure => simp [intOf]; omega
    · obtain rfl : k = 4 := by omega
      obtain ⟨v0, A0⟩ := O.at 0 (by omega)
      obtain ⟨v1, A1⟩ := O.at 1 (by omega)
      obtain ⟨v2, A2⟩ := O.at 2 (by omega)
      obtain ⟨v3, A3⟩ := O.at 3 (by omega)
      rw [(HG.out 0).1, (HG.out 0).2] at A0
      rw [(HG.out 1).1, (HG.out 1).2] at A1
      rw [(HG.out 2).1, (HG.out 2).2] at A2
      rw [(HG.out 3).1, (HG.out 3).2] at A3
      have lo := O.lts
      have ll := O.2.2.2
      have N4 := N.keep B
      have zB := B.size
      have lY4 := Y.lt
      have HNL : Hid (∀ y ∈ g :: bi.flatten, y ∉ b0 :: bs) := fun y hy hm => by have := ll y hy; rcases List.mem_cons.1 hm with h | h; omega; (have := lNs _ h; omega)
      have KX1 := fun W (hN : NetIn W b0 x bs) (hO : Off [] wr W) => spec_l5Xor_fs b0 g (0 * 2) g (1 * 2) v0 v1 x bs m (lfF fs 0) (lfF fs 1) W hN HB.out.1 (by omega) hq0 (HLK.out 0) (HLK.out 1) (HLO.out 0) (fun V hV => A0 V (b0 :: bs) ((hO.mono (by simp)).trans hV) HNL.out) (fun V hV => A1 V (b0 :: bs) ((hO.mono (by simp)).trans hV) HNL.out)
      rw [HE1.out.1, HE1.out.2] at KX1
      clear A0 A1 O hk KL
      have P4 : Off (b0 :: bs) w wr := Off.ofBelow B
      generalize hx1 : ijX1 fs x = x1 at *
      generalize hfa : ijA fs x = fa at *
      go_wp2_with fail
      go_cut [8, 9] from 23 (fun u s wz => ∃ g1 p c bm cs, u = .pointer (some ⟨g1, 0, none⟩) ∧ s = .bool (!x1.xQuarrel.xSome) ∧ IjMid wr wz b0 g1 bs cs bm x1 fa p c ∧ Blk wz w.heap.size 36 #[.int .i64 0, .slice none 0 0])
      case first =>
        have hYn : w.heap.size ∉ bs := fun h => by have := lNs _ h; omega
        refine wp_region_held (S := fun _ => True) (by kernel_rfl) ?_
        try (change wpAnyH _ _ _ _ _ _ _ _ (World.drew _))
        have hS : True := trivial
        have Nd : NetIn wr.drew b0 _ bs := N4.keep (Below.refl _ _).drew
        have Yd := Y.drew
        have bd : Below wr.heap.size wr wr.drew := (Below.refl _ _).drew
        have lNd := N4.lt
        have lNsd := N4.lts
        have lYd := Y.lt
        generalize wr.drew = ud at *
        refine wpAnyH_take (i := 0) (v := ?vz1) rfl (by kernel_rfl) (by kernel_rfl) (by kernel_rfl) (fun _ _ _ h => h) (Or.inl ⟨by rfl, ?hz1⟩) hS ?rz1
        case hz1 => intro w' hSw; go_simp; (try with_reducible rfl)
        (try simp only [List.getElem_toArray]); (try simp only [List.getElem_cons_succ]); (try simp only [List.getElem_cons_zero]); (try simp only [Act.put]); (try simp only [List.setIfInBounds_toArray]); (try simp only [List.set_cons_succ]); (try simp only [List.set_cons_zero])
        refine wpAnyH_take (i := 1) (v := ?vz2) rfl (by kernel_rfl) (by kernel_rfl) (by kernel_rfl) (fun _ _ _ h => h) (Or.inl ⟨by rfl, ?hz2⟩) hS ?rz2
        case hz2 => intro w' hSw; go_simp; (try with_reducible rfl)
        (try simp only [List.getElem_toArray]); (try simp only [List.getElem_cons_succ]); (try simp only [List.getElem_cons_zero]); (try simp only [Act.put]); (try simp only [List.setIfInBounds_toArray]); (try simp only [List.set_cons_succ]); (try simp only [List.set_cons_zero])
        refine wpAnyH_take (i := 2) (v := ?vz3) rfl (by kernel_rfl) (by kernel_rfl) (by kernel_rfl) (fun _ _ _ h => h) (Or.inl ⟨by rfl, ?hz3⟩) hS ?rz3
        case hz3 => intro w' hSw; go_simp; (try with_reducible rfl)
        (try simp only [List.getElem_toArray]); (try simp only [List.getElem_cons_succ]); (try simp only [List.getElem_cons_zero]); (try simp only [Act.put]); (try simp only [List.setIfInBounds_toArray]); (try simp only [List.set_cons_succ]); (try simp only [List.set_cons_zero])
        refine wpAnyH_take (i := 3) (v := ?vz4) rfl (by kernel_rfl) (by kernel_rfl) (by kernel_rfl) (fun _ _ _ h => h) (Or.inl ⟨by rfl, ?hz4⟩) hS ?rz4
        case hz4 => intro w' hSw; go_simp; (try with_reducible rfl)
        (try simp only [List.getElem_toArray]); (try simp only [List.getElem_cons_succ]); (try simp only [List.getElem_cons_zero]); (try simp only [Act.put]); (try simp only [List.setIfInBounds_toArray]); (try simp only [List.set_cons_succ]); (try simp only [List.set_cons_zero])
        refine wpAnyH_take (i := 4) (v := ?vz5) rfl (by kernel_rfl) (by kernel_rfl) (by kernel_rfl) (fun _ _ _ h => h) (Or.inl ⟨by rfl, ?hz5⟩) hS ?rz5
        case hz5 => intro w' hSw; go_simp; (try with_reducible rfl)
        (try simp only [List.getElem_toArray]); (try simp only [List.getElem_cons_succ]); (try simp only [List.getElem_cons_zero]); (try simp only [Act.put]); (try simp only [List.setIfInBounds_toArray]); (try simp only [List.set_cons_succ]); (try simp only [List.set_cons_zero])
        refine wpAnyH_ready (rs := [5, 9]) (by kernel_rfl) (by simp) ?_
        refine AllReadyH.cons (o := _) rfl (fun K hK => ?_) (AllReadyH.cons (o := _) rfl (fun K hK => ?_) AllReadyH.nil)
        · skip
          rw [if_pos (by rfl)]
          go_simp
          go_at_call 87
          refine (KX1 _ Nd (Off.ofBelow bd)).mono ?_
          rintro e uv6 ⟨cs, p, c, bm, rfl, Mq6, hbm0, Nq6, hcs0, O⟩
          have zo := O.size
          have zb := bd.size
          have nh : ∀ y, wr.heap.size ≤ y → y ∉ b0 :: bs := fun y hy hm => by rcases List.mem_cons.1 hm with h | h; omega; (have := lNsd _ h; omega)
          have Yq6 := Yd.off O (fun hm => by rcases List.mem_cons.1 hm with h | h; (first | omega | exact absurd h (by omega)); (first | (have := hYn h; omega) | exact hYn h))
          have Pq6 : Off (b0 :: bs) wr uv6 := (Off.ofBelow bd).trans O
          have hbm : ∀ y ∈ bm, wr.heap.size ≤ y ∧ y ∉ cs := fun y hy => ⟨Nat.le_trans zb (hbm0 y hy).1, (hbm0 y hy).2⟩
          have hcs : ∀ y ∈ cs, y ∈ bs ∨ wr.heap.size ≤ y := fun y hy => by rcases hcs0 y hy with h | h; (exact .inl h); (right; omega)
          clear O hbm0 hcs0
          dsimp only
          refine hK.out _ _ trivial (fun hS => ?_)
          clear hK K
          (try simp only [List.getElem_toArray]); (try simp only [List.getElem_cons_succ]); (try simp only [List.getElem_cons_zero]); (try simp only [Act.put]); (try simp only [List.setIfInBounds_toArray]); (try simp only [List.set_cons_succ]); (try simp only [List.set_cons_zero])
          refine wpAnyH_take (i := 6) (v := ?vz7) rfl (by kernel_rfl) (by kernel_rfl) (by kernel_rfl) (fun _ _ _ h => h) (Or.inl ⟨by rfl, ?hz7⟩) hS ?rz7
          case hz7 => intro w' hSw; go_simp; (try with_reducible rfl)
          (try simp only [List.getElem_toArray]); (try simp only [List.getElem_cons_succ]); (try simp only [List.getElem_cons_zero]); (try simp only [Act.put]); (try simp only [List.setIfInBounds_toArray]); (try simp only [List.set_cons_succ]); (try simp only [List.set_cons_zero])
          refine wpAnyH_take (i := 7) (v := ?vz8) rfl (by kernel_rfl) (by kernel_rfl) (by kernel_rfl) (fun _ _ _ h => h) (Or.inl ⟨by rfl, ?hz8⟩) hS ?rz8
          case hz8 => intro w' hSw; go_simp; (try with_reducible rfl)
          (try simp only [List.getElem_toArray]); (try simp only [List.getElem_cons_succ]); (try simp only [List.getElem_cons_zero]); (try simp only [Act.put]); (try simp only [List.setIfInBounds_toArray]); (try simp only [List.set_cons_succ]); (try simp only [List.set_cons_zero])
          refine wpAnyH_take (i := 8) (v := ?vz9) rfl (by kernel_rfl) (by kernel_rfl) (by kernel_rfl) (fun _ _ _ h => h) (Or.inl ⟨by rfl, ?hz9⟩) hS ?rz9
          case hz9 => intro w' hSw; go_simp; (try with_reducible rfl)
          (try simp only [List.getElem_toArray]); (try simp only [List.getElem_cons_succ]); (try simp only [List.getElem_cons_zero]); (try simp only [Act.put]); (try simp only [List.setIfInBounds_toArray]); (try simp only [List.set_cons_succ]); (try simp only [List.set_cons_zero])
          refine wpAnyH_ready (rs := [9]) (by kernel_rfl) (by simp) ?_
          refine AllReadyH.cons (o := _) rfl (fun K hK => ?_) AllReadyH.nil
          rw [if_pos (by rfl)]
          go_simp
          have NBq10 := Blk.new uv6 36 #[.int .i64 0, .slice none 0 0]
          have Yq10 := Yq6.alloc (.cells #[.int .i64 0, .slice none 0 0] 36)
          have Nq10 : NetIn (uv6.alloc (.cells #[.int .i64 0, .slice none 0 0] 36)) b0 x1 cs := Nq6.keep ((Below.refl _ _).alloc (Nat.le_refl _) _)
          have Mq10 := Mq6.alloc (.cells #[.int .i64 0, .slice none 0 0] 36)
          have Pq10 := Pq6.trans (Off.ofBelow ((Below.refl _ _).alloc (Nat.le_refl _) (.cells #[.int .i64 0, .slice none 0 0] 36)))
          have nbm : uv6.heap.size ∉ bm := fun h => by have := Mq6.lt _ h; omega
          have ncs : uv6.heap.size ∉ cs := fun h => by have := Nq6.lts _ h; omega
          have lgn : wr.heap.size ≤ uv6.heap.size := by omega
          generalize uv6.alloc (.cells #[.int .i64 0, .slice none 0 0] 36) = uv10 at *
          generalize hgn : uv6.heap.size = gn at *
          refine hK.out _ _ trivial (fun hS => ?_)
          clear hK K
          (try simp only [List.getElem_toArray]); (try simp only [List.getElem_cons_succ]); (try simp only [List.getElem_cons_zero]); (try simp only [Act.put]); (try simp only [List.setIfInBounds_toArray]); (try simp only [List.set_cons_succ]); (try simp only [List.set_cons_zero])
          refine wpAnyH_ready (rs := [10]) (by kernel_rfl) (by simp) ?_
          refine AllReadyH.cons (o := _) rfl (fun K hK => ?_) AllReadyH.nil
          refine step_store_blk rfl 36 _ _ rfl gn #[.int .i64 (mOf x1.xQuarrel.xSome 256 fa).xQ, .slice p (mOf x1.xQuarrel.xSome 256 fa).xViews.length c] rfl rfl NBq10 rfl (by kernel_rfl) (by kernel_rfl) ?_
          intro ue Ze Oe
          have Me := Mq10.off Oe (fun y hy hm => by simp at hm; exact nbm (hm ▸ hy))
          have Ne := Nq10.off Oe (by simp; omega) (fun y hy hm => by simp at hm; exact ncs (hm ▸ hy))
          have Ye := Yq10.off Oe (by simp; omega)
          have Pe := Pq10.mix Oe (fun y hy => by simp at hy; right; omega)
          refine hK.out _ _ trivial (fun hS => ?_)
          clear hK K
          (try simp only [List.getElem_toArray]); (try simp only [List.getElem_cons_succ]); (try simp only [List.getElem_cons_zero]); (try simp only [Act.put]); (try simp only [List.setIfInBounds_toArray]); (try simp only [List.set_cons_succ]); (try simp only [List.set_cons_zero])
          refine wpAnyH_take (i := 11) (v := ?vz12) rfl (by kernel_rfl) (by kernel_rfl) (by kernel_rfl) (fun _ _ _ h => h) (Or.inl ⟨by rfl, ?hz12⟩) hS ?rz12
          case hz12 => intro w' hSw; go_simp; (try with_reducible rfl)
          (try simp only [List.getElem_toArray]); (try simp only [List.getElem_cons_succ]); (try simp only [List.getElem_cons_zero]); (try simp only [Act.put]); (try simp only [List.setIfInBounds_toArray]); (try simp only [List.set_cons_succ]); (try simp only [List.set_cons_zero])
          refine wpAnyH_done (by kernel_rfl) ?_ _
          clear hS
          go_wp2
          go_meet
          case rel => exact ⟨gn, p, c, bm, cs, rfl, rfl, ⟨Ze, Me, hbm, lgn, ncs, nbm, Ne, hcs, Pe⟩, Ye⟩
        · skip
          rw [if_pos (by rfl)]
          go_simp
          have NBq13 := Blk.new ud 36 #[.int .i64 0, .slice none 0 0]
          have Yq13 := Yd.alloc (.cells #[.int .i64 0, .slice none 0 0] 36)
          have Nq13 : NetIn (ud.alloc (.cells #[.int .i64 0, .slice none 0 0] 36)) b0 _ bs := Nd.keep ((Below.refl _ _).alloc (Nat.le_refl _) _)
          have bq13 := bd.alloc bd.size (.cells #[.int .i64 0, .slice none 0 0] 36)
          have lgn : wr.heap.size ≤ ud.heap.size := bd.size
          generalize ud.alloc (.cells #[.int .i64 0, .slice none 0 0] 36) = uv13 at *
          generalize hgn : ud.heap.size = gn at *
          refine hK.out _ _ trivial (fun hS => ?_)
          clear hK K
          (try simp only [List.getElem_toArray]); (try simp only [List.getElem_cons_succ]); (try simp only [List.getElem_cons_zero]); (try simp only [Act.put]); (try simp only [List.setIfInBounds_toArray]); (try simp only [List.set_cons_succ]); (try simp only [List.set_cons_zero])
          refine wpAnyH_ready (rs := [5]) (by kernel_rfl) (by simp) ?_
          refine AllReadyH.cons (o := _) rfl (fun K hK => ?_) AllReadyH.nil
          rw [if_pos (by rfl)]
          go_simp
          go_at_call 87
          refine (KX1 _ Nq13 (Off.ofBelow bq13)).mono ?_
          rintro e uv14 ⟨cs, p, c, bm, rfl, Mq14, hbm0, Nq14, hcs0, O⟩
          have zo := O.size
          have zb := bq13.size
          have nh : ∀ y, wr.heap.size ≤ y → y ∉ b0 :: bs := fun y hy hm => by rcases List.mem_cons.1 hm with h | h; omega; (have := lNsd _ h; omega)
          have Yq14 := Yq13.off O (fun hm => by rcases List.mem_cons.1 hm with h | h; (first | omega | exact absurd h (by omega)); (first | (have := hYn h; omega) | exact hYn h))
          have Pq14 : Off (b0 :: bs) wr uv14 := (Off.ofBelow bq13).trans O
          have hbm : ∀ y ∈ bm, wr.heap.size ≤ y ∧ y ∉ cs := fun y hy => ⟨Nat.le_trans zb (hbm0 y hy).1, (hbm0 y hy).2⟩
          have hcs : ∀ y ∈ cs, y ∈ bs ∨ wr.heap.size ≤ y := fun y hy => by rcases hcs0 y hy with h | h; (exact .inl h); (right; omega)
          have NBq14 := NBq13.off O (nh _ lgn)
          have lnb := NBq13.lt
          have nbm : gn ∉ bm := fun h => by have := (hbm0 _ h).1; omega
          have ncs : gn ∉ cs := fun h => by rcases hcs0 _ h with h2 | h2; (have := lNsd _ h2; omega); omega
          clear O hbm0 hcs0
          dsimp only
          refine hK.out _ _ trivial (fun hS => ?_)
          clear hK K
          (try simp only [List.getElem_toArray]); (try simp only [List.getElem_cons_succ]); (try simp only [List.getElem_cons_zero]); (try simp only [Act.put]); (try simp only [List.setIfInBounds_toArray]); (try simp only [List.set_cons_succ]); (try simp only [List.set_cons_zero])
          refine wpAnyH_take (i := 6) (v := ?vz15) rfl (by kernel_rfl) (by kernel_rfl) (by kernel_rfl) (fun _ _ _ h => h) (Or.inl ⟨by rfl, ?hz15⟩) hS ?rz15
          case hz15 => intro w' hSw; go_simp; (try with_reducible rfl)
          (try simp only [List.getElem_toArray]); (try simp only [List.getElem_cons_succ]); (try simp only [List.getElem_cons_zero]); (try simp only [Act.put]); (try simp only [List.setIfInBounds_toArray]); (try simp only [List.set_cons_succ]); (try simp only [List.set_cons_zero])
          refine wpAnyH_take (i := 7) (v := ?vz16) rfl (by kernel_rfl) (by kernel_rfl) (by kernel_rfl) (fun _ _ _ h => h) (Or.inl ⟨by rfl, ?hz16⟩) hS ?rz16
          case hz16 => intro w' hSw; go_simp; (try with_reducible rfl)
          (try simp only [List.getElem_toArray]); (try simp only [List.getElem_cons_succ]); (try simp only [List.getElem_cons_zero]); (try simp only [Act.put]); (try simp only [List.setIfInBounds_toArray]); (try simp only [List.set_cons_succ]); (try simp only [List.set_cons_zero])
          refine wpAnyH_take (i := 8) (v := ?vz17) rfl (by kernel_rfl) (by kernel_rfl) (by kernel_rfl) (fun _ _ _ h => h) (Or.inl ⟨by rfl, ?hz17⟩) hS ?rz17
          case hz17 => intro w' hSw; go_simp; (try with_reducible rfl)
          (try simp only [List.getElem_toArray]); (try simp only [List.getElem_cons_succ]); (try simp only [List.getElem_cons_zero]); (try simp only [Act.put]); (try simp only [List.setIfInBounds_toArray]); (try simp only [List.set_cons_succ]); (try simp only [List.set_cons_zero])
          refine wpAnyH_ready (rs := [10]) (by kernel_rfl) (by simp) ?_
          refine AllReadyH.cons (o := _) rfl (fun K hK => ?_) AllReadyH.nil
          refine step_store_blk rfl 36 _ _ rfl gn #[.int .i64 (mOf x1.xQuarrel.xSome 256 fa).xQ, .slice p (mOf x1.xQuarrel.xSome 256 fa).xViews.length c] rfl rfl NBq14 rfl (by kernel_rfl) (by kernel_rfl) ?_
          intro ue Ze Oe
          have Me := Mq14.off Oe (fun y hy hm => by simp at hm; exact nbm (hm ▸ hy))
          have Ne := Nq14.off Oe (by simp; omega) (fun y hy hm => by simp at hm; exact ncs (hm ▸ hy))
          have Ye := Yq14.off Oe (by simp; omega)
          have Pe := Pq14.mix Oe (fun y hy => by simp at hy; right; omega)
          refine hK.out _ _ trivial (fun hS => ?_)
          clear hK K
          (try simp only [List.getElem_toArray]); (try simp only [List.getElem_cons_succ]); (try simp only [List.getElem_cons_zero]); (try simp only [Act.put]); (try simp only [List.setIfInBounds_toArray]); (try simp only [List.set_cons_succ]); (try simp only [List.set_cons_zero])
          refine wpAnyH_take (i := 11) (v := ?vz19) rfl (by kernel_rfl) (by kernel_rfl) (by kernel_rfl) (fun _ _ _ h => h) (Or.inl ⟨by rfl, ?hz19⟩) hS ?rz19
          case hz19 => intro w' hSw; go_simp; (try with_reducible rfl)
          (try simp only [List.getElem_toArray]); (try simp only [List.getElem_cons_succ]); (try simp only [List.getElem_cons_zero]); (try simp only [Act.put]); (try simp only [List.setIfInBounds_toArray]); (try simp only [List.set_cons_succ]); (try simp only [List.set_cons_zero])
          refine wpAnyH_done (by kernel_rfl) ?_ _
          clear hS
          go_wp2
          go_meet
          case rel => exact ⟨gn, p, c, bm, cs, rfl, rfl, ⟨Ze, Me, hbm, lgn, ncs, nbm, Ne, hcs, Pe⟩, Ye⟩
      case rest =>
        obtain ⟨g1, p1, c1, bm1, cs1, rfl, rfl, ⟨Z1, M1, hm1, lg1, ng1, nb1, N1, hc1, P1⟩, Y1⟩ := hcut
        obtain ⟨u1, eu⟩ : ∃ x : World, x = wc := ⟨_, rfl⟩
        subst eu
        clear KX1 N4 Y
        have lc1 := N1.lts
        have lM1 := M1.lt
        have lZ1 := Z1.lt
        have ln1 := N1.lt
        have zP1 := P1.size
        cases hs1 : x1.xQuarrel.xSome
        · rw [hs1] at Z1 M1
          rw [mOf_on] at Z1 M1
          change Blk u1 g1 36 #[.int .i64 256, .slice p1 4 c1] at Z1
          change Mat u1 (.slice p1 4 c1) (unflat fa) bm1 at M1
          have HC1 : Hid (∀ y ∈ b0 :: cs1, y ∈ b0 :: bs ∨ wr.heap.size ≤ y) := fun y hy => by rcases List.mem_cons.1 hy with h | h; (left; rw [h]; simp); (rcases hc1 y h with h2 | h2; (left; simp [h2]); (right; exact h2))
          have KX2 := fun W (hN : NetIn W b0 x1 cs1) (hO : Off [] u1 W) => spec_l5Xor_fs b0 g (2 * 2) g (3 * 2) v2 v3 x1 cs1 (m + 12) (lfF fs 2) (lfF fs 3) W hN HB.out.2.1 (by omega) hs1 (HLK.out 2) (HLK.out 3) (HLO.out 2) (fun V hV => A2 V (b0 :: bs) (P1.mix ((hO.mono (by simp)).trans hV) HC1.out) HNL.out) (fun V hV => A3 V (b0 :: bs) (P1.mix ((hO.mono (by simp)).trans hV) HC1.out) HNL.out)
          rw [HE2.out.1, HE2.out.2] at KX2
          generalize hx2 : ijX2 fs x = x2 at *
          generalize hfb : ijB fs x = fb at *
          go_wp2_with fail
          go_cut [10, 11] from 35 (fun u s wz => ∃ g2 p c bm cs, u = .pointer (some ⟨g2, 0, none⟩) ∧ s = .bool (!x2.xQuarrel.xSome) ∧ IjMid u1 wz b0 g2 cs1 cs bm x2 fb p c ∧ Blk wz w.heap.size 36 #[.int .i64 0, .slice none 0 0])
          case first =>
            have hYn : w.heap.size ∉ cs1 := fun h => by rcases hc1 _ h with h2 | h2; (have := lNs _ h2; omega); omega
            refine wp_region_held (S := fun _ => True) (by kernel_rfl) ?_
            try (change wpAnyH _ _ _ _ _ _ _ _ (World.drew _))
            have hS : True := trivial
            have Nd : NetIn u1.drew b0 _ cs1 := N1.keep (Below.refl _ _).drew
            have Yd := Y1.drew
            have bd : Below u1.heap.size u1 u1.drew := (Below.refl _ _).drew
            have lNd := N1.lt
            have lNsd := N1.lts
            have lYd := Y1.lt
            generalize u1.drew = ud at *
            refine wpAnyH_take (i := 0) (v := ?vz20) rfl (by kernel_rfl) (by kernel_rfl) (by kernel_rfl) (fun _ _ _ h => h) (Or.inl ⟨by rfl, ?hz20⟩) hS ?rz20
            case hz20 => intro w' hSw; go_simp; (try with_reducible rfl)
            (try simp only [List.getElem_toArray]); (try simp only [List.getElem_cons_succ]); (try simp only [List.getElem_cons_zero]); (try simp only [Act.put]); (try simp only [List.setIfInBounds_toArray]); (try simp only [List.set_cons_succ]); (try simp only [List.set_cons_zero])
            refine wpAnyH_take (i := 1) (v := ?vz21) rfl (by kernel_rfl) (by kernel_rfl) (by kernel_rfl) (fun _ _ _ h => h) (Or.inl ⟨by rfl, ?hz21⟩) hS ?rz21
            case hz21 => intro w' hSw; go_simp; (try with_reducible rfl)
            (try simp only [List.getElem_toArray]); (try simp only [List.getElem_cons_succ]); (try simp only [List.getElem_cons_zero]); (try simp only [Act.put]); (try simp only [List.setIfInBounds_toArray]); (try simp only [List.set_cons_succ]); (try simp only [List.set_cons_zero])
            refine wpAnyH_take (i := 2) (v := ?vz22) rfl (by kernel_rfl) (by kernel_rfl) (by kernel_rfl) (fun _ _ _ h => h) (Or.inl ⟨by rfl, ?hz22⟩) hS ?rz22
            case hz22 => intro w' hSw; go_simp; (try with_reducible rfl)
            (try simp only [List.getElem_toArray]); (try simp only [List.getElem_cons_succ]); (try simp only [List.getElem_cons_zero]); (try simp only [Act.put]); (try simp only [List.setIfInBounds_toArray]); (try simp only [List.set_cons_succ]); (try simp only [List.set_cons_zero])
            refine wpAnyH_take (i := 3) (v := ?vz23) rfl (by kernel_rfl) (by kernel_rfl) (by kernel_rfl) (fun _ _ _ h => h) (Or.inl ⟨by rfl, ?hz23⟩) hS ?rz23
            case hz23 => intro w' hSw; go_simp; (try with_reducible rfl)
            (try simp only [List.getElem_toArray]); (try simp only [List.getElem_cons_succ]); (try simp only [List.getElem_cons_zero]); (try simp only [Act.put]); (try simp only [List.setIfInBounds_toArray]); (try simp only [List.set_cons_succ]); (try simp only [List.set_cons_zero])
            refine wpAnyH_take (i := 4) (v := ?vz24) rfl (by kernel_rfl) (by kernel_rfl) (by kernel_rfl) (fun _ _ _ h => h) (Or.inl ⟨by rfl, ?hz24⟩) hS ?rz24
            case hz24 => intro w' hSw; go_simp; (try with_reducible rfl)
            (try simp only [List.getElem_toArray]); (try simp only [List.getElem_cons_succ]); (try simp only [List.getElem_cons_zero]); (try simp only [Act.put]); (try simp only [List.setIfInBounds_toArray]); (try simp only [List.set_cons_succ]); (try simp only [List.set_cons_zero])
            refine wpAnyH_ready (rs := [5, 9]) (by kernel_rfl) (by simp) ?_
            refine AllReadyH.cons (o := _) rfl (fun K hK => ?_) (AllReadyH.cons (o := _) rfl (fun K hK => ?_) AllReadyH.nil)
            · skip
              rw [if_pos (by rfl)]
              go_simp
              go_at_call 87
              refine (KX2 _ Nd (Off.ofBelow bd)).mono ?_
              rintro e uv25 ⟨cs, p, c, bm, rfl, Mq25, hbm0, Nq25, hcs0, O⟩
              have zo := O.size
              have zb := bd.size
              have nh : ∀ y, u1.heap.size ≤ y → y ∉ b0 :: cs1 := fun y hy hm => by rcases List.mem_cons.1 hm with h | h; omega; (have := lNsd _ h; omega)
              have Yq25 := Yd.off O (fun hm => by rcases List.mem_cons.1 hm with h | h; (first | omega | exact absurd h (by omega)); (first | (have := hYn h; omega) | exact hYn h))
              have Pq25 : Off (b0 :: cs1) u1 uv25 := (Off.ofBelow bd).trans O
              have hbm : ∀ y ∈ bm, u1.heap.size ≤ y ∧ y ∉ cs := fun y hy => ⟨Nat.le_trans zb (hbm0 y hy).1, (hbm0 y hy).2⟩
              have hcs : ∀ y ∈ cs, y ∈ cs1 ∨ u1.heap.size ≤ y := fun y hy => by rcases hcs0 y hy with h | h; (exact .inl h); (right; omega)
              clear O hbm0 hcs0
              dsimp only
              refine hK.out _ _ trivial (fun hS => ?_)
              clear hK K
              (try simp only [List.getElem_toArray]); (try simp only [List.getElem_cons_succ]); (try simp only [List.getElem_cons_zero]); (try simp only [Act.put]); (try simp only [List.setIfInBounds_toArray]); (try simp only [List.set_cons_succ]); (try simp only [List.set_cons_zero])
              refine wpAnyH_take (i := 6) (v := ?vz26) rfl (by kernel_rfl) (by kernel_rfl) (by kernel_rfl) (fun _ _ _ h => h) (Or.inl ⟨by rfl, ?hz26⟩) hS ?rz26
              case hz26 => intro w' hSw; go_simp; (try with_reducible rfl)
              (try simp only [List.getElem_toArray]); (try simp only [List.getElem_cons_succ]); (try simp only [List.getElem_cons_zero]); (try simp only [Act.put]); (try simp only [List.setIfInBounds_toArray]); (try simp only [List.set_cons_succ]); (try simp only [List.set_cons_zero])
              refine wpAnyH_take (i := 7) (v := ?vz27) rfl (by kernel_rfl) (by kernel_rfl) (by kernel_rfl) (fun _ _ _ h => h) (Or.inl ⟨by rfl, ?hz27⟩) hS ?rz27
              case hz27 => intro w' hSw; go_simp; (try with_reducible rfl)
              (try simp only [List.getElem_toArray]); (try simp only [List.getElem_cons_succ]); (try simp only [List.getElem_cons_zero]); (try simp only [Act.put]); (try simp only [List.setIfInBounds_toArray]); (try simp only [List.set_cons_succ]); (try simp only [List.set_cons_zero])
              refine wpAnyH_take (i := 8) (v := ?vz28) rfl (by kernel_rfl) (by kernel_rfl) (by kernel_rfl) (fun _ _ _ h => h) (Or.inl ⟨by rfl, ?hz28⟩) hS ?rz28
              case hz28 => intro w' hSw; go_simp; (try with_reducible rfl)
              (try simp only [List.getElem_toArray]); (try simp only [List.getElem_cons_succ]); (try simp only [List.getElem_cons_zero]); (try simp only [Act.put]); (try simp only [List.setIfInBounds_toArray]); (try simp only [List.set_cons_succ]); (try simp only [List.set_cons_zero])
              refine wpAnyH_ready (rs := [9]) (by kernel_rfl) (by simp) ?_
              refine AllReadyH.cons (o := _) rfl (fun K hK => ?_) AllReadyH.nil
              rw [if_pos (by rfl)]
              go_simp
              have NBq29 := Blk.new uv25 36 #[.int .i64 0, .slice none 0 0]
              have Yq29 := Yq25.alloc (.cells #[.int .i64 0, .slice none 0 0] 36)
              have Nq29 : NetIn (uv25.alloc (.cells #[.int .i64 0, .slice none 0 0] 36)) b0 x2 cs := Nq25.keep ((Below.refl _ _).alloc (Nat.le_refl _) _)
              have Mq29 := Mq25.alloc (.cells #[.int .i64 0, .slice none 0 0] 36)
              have Pq29 := Pq25.trans (Off.ofBelow ((Below.refl _ _).alloc (Nat.le_refl _) (.cells #[.int .i64 0, .slice none 0 0] 36)))
              have nbm : uv25.heap.size ∉ bm := fun h => by have := Mq25.lt _ h; omega
              have ncs : uv25.heap.size ∉ cs := fun h => by have := Nq25.lts _ h; omega
              have lgn : u1.heap.size ≤ uv25.heap.size := by omega
              generalize uv25.alloc (.cells #[.int .i64 0, .slice none 0 0] 36) = uv29 at *
              generalize hgn : uv25.heap.size = gn at *
              refine hK.out _ _ trivial (fun hS => ?_)
              clear hK K
              (try simp only [List.getElem_toArray]); (try simp only [List.getElem_cons_succ]); (try simp only [List.getElem_cons_zero]); (try simp only [Act.put]); (try simp only [List.setIfInBounds_toArray]); (try simp only [List.set_cons_succ]); (try simp only [List.set_cons_zero])
              refine wpAnyH_ready (rs := [10]) (by kernel_rfl) (by simp) ?_
              refine AllReadyH.cons (o := _) rfl (fun K hK => ?_) AllReadyH.nil
              refine step_store_blk rfl 36 _ _ rfl gn #[.int .i64 (mOf x2.xQuarrel.xSome 256 fb).xQ, .slice p (mOf x2.xQuarrel.xSome 256 fb).xViews.length c] rfl rfl NBq29 rfl (by kernel_rfl) (by kernel_rfl) ?_
              intro ue Ze Oe
              have Me := Mq29.off Oe (fun y hy hm => by simp at hm; exact nbm (hm ▸ hy))
              have Ne := Nq29.off Oe (by simp; omega) (fun y hy hm => by simp at hm; exact ncs (hm ▸ hy))
              have Ye := Yq29.off Oe (by simp; omega)
              have Pe := Pq29.mix Oe (fun y hy => by simp at hy; right; omega)
              refine hK.out _ _ trivial (fun hS => ?_)
              clear hK K
              (try simp only [List.getElem_toArray]); (try simp only [List.getElem_cons_succ]); (try simp only [List.getElem_cons_zero]); (try simp only [Act.put]); (try simp only [List.setIfInBounds_toArray]); (try simp only [List.set_cons_succ]); (try simp only [List.set_cons_zero])
              refine wpAnyH_take (i := 11) (v := ?vz31) rfl (by kernel_rfl) (by kernel_rfl) (by kernel_rfl) (fun _ _ _ h => h) (Or.inl ⟨by rfl, ?hz31⟩) hS ?rz31
              case hz31 => intro w' hSw; go_simp; (try with_reducible rfl)
              (try simp only [List.getElem_toArray]); (try simp only [List.getElem_cons_succ]); (try simp only [List.getElem_cons_zero]); (try simp only [Act.put]); (try simp only [List.setIfInBounds_toArray]); (try simp only [List.set_cons_succ]); (try simp only [List.set_cons_zero])
              refine wpAnyH_done (by kernel_rfl) ?_ _
              clear hS
              go_wp2
              go_meet
              case rel => exact ⟨gn, p, c, bm, cs, rfl, rfl, ⟨Ze, Me, hbm, lgn, ncs, nbm, Ne, hcs, Pe⟩, Ye⟩
            · skip
              rw [if_pos (by rfl)]
              go_simp
              have NBq32 := Blk.new ud 36 #[.int .i64 0, .slice none 0 0]
              have Yq32 := Yd.alloc (.cells #[.int .i64 0, .slice none 0 0] 36)
              have Nq32 : NetIn (ud.alloc (.cells #[.int .i64 0, .slice none 0 0] 36)) b0 _ cs1 := Nd.keep ((Below.refl _ _).alloc (Nat.le_refl _) _)
              have bq32 := bd.alloc bd.size (.cells #[.int .i64 0, .slice none 0 0] 36)
              have lgn : u1.heap.size ≤ ud.heap.size := bd.size
              generalize ud.alloc (.cells #[.int .i64 0, .slice none 0 0] 36) = uv32 at *
              generalize hgn : ud.heap.size = gn at *
              refine hK.out _ _ trivial (fun hS => ?_)
              clear hK K
              (try simp only [List.getElem_toArray]); (try simp only [List.getElem_cons_succ]); (try simp only [List.getElem_cons_zero]); (try simp only [Act.put]); (try simp only [List.setIfInBounds_toArray]); (try simp only [List.set_cons_succ]); (try simp only [List.set_cons_zero])
              refine wpAnyH_ready (rs := [5]) (by kernel_rfl) (by simp) ?_
              refine AllReadyH.cons (o := _) rfl (fun K hK => ?_) AllReadyH.nil
              rw [if_pos (by rfl)]
              go_simp
              go_at_call 87
              refine (KX2 _ Nq32 (Off.ofBelow bq32)).mono ?_
              rintro e uv33 ⟨cs, p, c, bm, rfl, Mq33, hbm0, Nq33, hcs0, O⟩
              have zo := O.size
              have zb := bq32.size
              have nh : ∀ y, u1.heap.size ≤ y → y ∉ b0 :: cs1 := fun y hy hm => by rcases List.mem_cons.1 hm with h | h; omega; (have := lNsd _ h; omega)
              have Yq33 := Yq32.off O (fun hm => by rcases List.mem_cons.1 hm with h | h; (first | omega | exact absurd h (by omega)); (first | (have := hYn h; omega) | exact hYn h))
              have Pq33 : Off (b0 :: cs1) u1 uv33 := (Off.ofBelow bq32).trans O
              have hbm : ∀ y ∈ bm, u1.heap.size ≤ y ∧ y ∉ cs := fun y hy => ⟨Nat.le_trans zb (hbm0 y hy).1, (hbm0 y hy).2⟩
              have hcs : ∀ y ∈ cs, y ∈ cs1 ∨ u1.heap.size ≤ y := fun y hy => by rcases hcs0 y hy with h | h; (exact .inl h); (right; omega)
              have NBq33 := NBq32.off O (nh _ lgn)
              have lnb := NBq32.lt
              have nbm : gn ∉ bm := fun h => by have := (hbm0 _ h).1; omega
              have ncs : gn ∉ cs := fun h => by rcases hcs0 _ h with h2 | h2; (have := lNsd _ h2; omega); omega
              clear O hbm0 hcs0
              dsimp only
              refine hK.out _ _ trivial (fun hS => ?_)
              clear hK K
              (try simp only [List.getElem_toArray]); (try simp only [List.getElem_cons_succ]); (try simp only [List.getElem_cons_zero]); (try simp only [Act.put]); (try simp only [List.setIfInBounds_toArray]); (try simp only [List.set_cons_succ]); (try simp only [List.set_cons_zero])
              refine wpAnyH_take (i := 6) (v := ?vz34) rfl (by kernel_rfl) (by kernel_rfl) (by kernel_rfl) (fun _ _ _ h => h) (Or.inl ⟨by rfl, ?hz34⟩) hS ?rz34
              case hz34 => intro w' hSw; go_simp; (try with_reducible rfl)
              (try simp only [List.getElem_toArray]); (try simp only [List.getElem_cons_succ]); (try simp only [List.getElem_cons_zero]); (try simp only [Act.put]); (try simp only [List.setIfInBounds_toArray]); (try simp only [List.set_cons_succ]); (try simp only [List.set_cons_zero])
              refine wpAnyH_take (i := 7) (v := ?vz35) rfl (by kernel_rfl) (by kernel_rfl) (by kernel_rfl) (fun _ _ _ h => h) (Or.inl ⟨by rfl, ?hz35⟩) hS ?rz35
              case hz35 => intro w' hSw; go_simp; (try with_reducible rfl)
              (try simp only [List.getElem_toArray]); (try simp only [List.getElem_cons_succ]); (try simp only [List.getElem_cons_zero]); (try simp only [Act.put]); (try simp only [List.setIfInBounds_toArray]); (try simp only [List.set_cons_succ]); (try simp only [List.set_cons_zero])
              refine wpAnyH_take (i := 8) (v := ?vz36) rfl (by kernel_rfl) (by kernel_rfl) (by kernel_rfl) (fun _ _ _ h => h) (Or.inl ⟨by rfl, ?hz36⟩) hS ?rz36
              case hz36 => intro w' hSw; go_simp; (try with_reducible rfl)
              (try simp only [List.getElem_toArray]); (try simp only [List.getElem_cons_succ]); (try simp only [List.getElem_cons_zero]); (try simp only [Act.put]); (try simp only [List.setIfInBounds_toArray]); (try simp only [List.set_cons_succ]); (try simp only [List.set_cons_zero])
              refine wpAnyH_ready (rs := [10]) (by kernel_rfl) (by simp) ?_
              refine AllReadyH.cons (o := _) rfl (fun K hK => ?_) AllReadyH.nil
              refine step_store_blk rfl 36 _ _ rfl gn #[.int .i64 (mOf x2.xQuarrel.xSome 256 fb).xQ, .slice p (mOf x2.xQuarrel.xSome 256 fb).xViews.length c] rfl rfl NBq33 rfl (by kernel_rfl) (by kernel_rfl) ?_
              intro ue Ze Oe
              have Me := Mq33.off Oe (fun y hy hm => by simp at hm; exact nbm (hm ▸ hy))
              have Ne := Nq33.off Oe (by simp; omega) (fun y hy hm => by simp at hm; exact ncs (hm ▸ hy))
              have Ye := Yq33.off Oe (by simp; omega)
              have Pe := Pq33.mix Oe (fun y hy => by simp at hy; right; omega)
              refine hK.out _ _ trivial (fun hS => ?_)
              clear hK K
              (try simp only [List.getElem_toArray]); (try simp only [List.getElem_cons_succ]); (try simp only [List.getElem_cons_zero]); (try simp only [Act.put]); (try simp only [List.setIfInBounds_toArray]); (try simp only [List.set_cons_succ]); (try simp only [List.set_cons_zero])
              refine wpAnyH_take (i := 11) (v := ?vz38) rfl (by kernel_rfl) (by kernel_rfl) (by kernel_rfl) (fun _ _ _ h => h) (Or.inl ⟨by rfl, ?hz38⟩) hS ?rz38
              case hz38 => intro w' hSw; go_simp; (try with_reducible rfl)
              (try simp only [List.getElem_toArray]); (try simp only [List.getElem_cons_succ]); (try simp only [List.getElem_cons_zero]); (try simp only [Act.put]); (try simp only [List.setIfInBounds_toArray]); (try simp only [List.set_cons_succ]); (try simp only [List.set_cons_zero])
              refine wpAnyH_done (by kernel_rfl) ?_ _
              clear hS
              go_wp2
              go_meet
              case rel => exact ⟨gn, p, c, bm, cs, rfl, rfl, ⟨Ze, Me, hbm, lgn, ncs, nbm, Ne, hcs, Pe⟩, Ye⟩
          case rest =>
            obtain ⟨g2, p2, c2, bm2, cs2, rfl, rfl, ⟨Z2, M2, hm2, lg2, ng2, nb2, N2, hc2, P2⟩, Y2⟩ := hcut
            obtain ⟨u2, eu2⟩ : ∃ x : World, x = wc := ⟨_, rfl⟩
            subst eu2
            have lc2 := N2.lts
            have lZ2 := Z2.lt
            have zP2 := P2.size
            have ln2 := N2.lt
            have nbz : b0 < wr.heap.size := by omega
            have hg1 : ∀ y, y = g1 ∨ y ∈ bm1 → wr.heap.size ≤ y ∧ y < u1.heap.size ∧ y ∉ cs1 := fun y hy => by rcases hy with rfl | h; (exact ⟨lg1, lZ1, ng1⟩); (exact ⟨(hm1 y h).1, lM1 y h, (hm1 y h).2⟩)
            have HD1 : Hid (∀ y, y = g1 ∨ y ∈ bm1 → y ∉ b0 :: cs1 ∧ y ∉ b0 :: cs2) := fun y hy => by
              obtain ⟨h1, h2, h3⟩ := hg1 y hy
              refine ⟨fun hm => ?_, fun hm => ?_⟩
              · rcases List.mem_cons.1 hm with h | h
                · omega
                · exact h3 h
              · rcases List.mem_cons.1 hm with h | h
                · omega
                · rcases hc2 y h with h4 | h4
                  · exact h3 h4
                  · omega
            have Z1b := Z1.off P2 (HD1.out _ (.inl rfl)).1
            have M1b := M1.off P2 (fun y hy => (HD1.out _ (.inr hy)).1)
            have PW : Off (b0 :: bs) w u2 := (P4.mix P1 (fun y hy => by rcases List.mem_cons.1 hy with h | h; (left; rw [h]; simp); (left; simp [h]))).mix P2 (fun y hy => by rcases List.mem_cons.1 hy with h | h; (left; rw [h]; simp); (rcases hc1 y h with h2 | h2; (left; simp [h2]); (right; omega)))
            have hcw : ∀ y ∈ cs2, y ∈ bs ∨ w.heap.size + 1 ≤ y := fun y hy => by rcases hc2 y hy with h | h; (rcases hc1 y h with h2 | h2; (exact .inl h2); (right; omega)); (right; omega)
            cases hs2 : x2.xQuarrel.xSome
            · rw [hs2] at Z2 M2
              rw [mOf_on] at Z2 M2
              change Blk u2 g2 36 #[.int .i64 256, .slice p2 4 c2] at Z2
              change Mat u2 (.slice p2 4 c2) (unflat fb) bm2 at M2
              have eX : ijX fs x = ijX3 fs x := ijX_3 (by rw [hx1]; exact hs1) (by rw [hx2]; exact hs2)
              have lM2 := M2.lt
              have HD2 : Hid (∀ y, y = g2 ∨ y ∈ bm2 → y ∉ b0 :: cs2) := fun y hy hm => by
                have h1 : u1.heap.size ≤ y ∧ y ∉ cs2 := by rcases hy with rfl | h; (exact ⟨lg2, ng2⟩); (exact hm2 y h)
                rcases List.mem_cons.1 hm with h | h
                · omega
                · exact h1.2 h
              have KX3 := spec_l5Xor_fs b0 g1 0 g2 0 _ _ x2 cs2 (m + 12 + 12) fa fb u2 N2 HB.out.2.2 (by omega) hs2 HAo.out.1 HAo.out.2.2 HAo.out.2.1 (fun V hV => ⟨⟨Nat.lt_of_lt_of_le Z1b.lt hV.size, (Z1b.off hV (HD1.out _ (.inl rfl)).2).at.1 0, (Z1b.off hV (HD1.out _ (.inl rfl)).2).at.1 1⟩, (M1b.off hV (fun y hy => (HD1.out _ (.inr hy)).2)).reads⟩) (fun V hV => ⟨⟨Nat.lt_of_lt_of_le Z2.lt hV.size, (Z2.off hV (HD2.out _ (.inl rfl))).at.1 0, (Z2.off hV (HD2.out _ (.inl rfl))).at.1 1⟩, (M2.off hV (fun y hy => HD2.out _ (.inr hy))).reads⟩)
              rw [HE3.out.1, HE3.out.2] at KX3
              generalize ijX3 fs x = x3 at *
              generalize hff : ijF fs x = ff at *
              have HXX : Hid (ijX fs x = x3 ∧ ijF fs x = ff) := ⟨eX, hff⟩
              clear eX hff
              clear Z1 M1 HE1 HE2 HE3 HLK HLO HB HAo A2 A3
              go_wp2_with fail
              refine KX3.mono ?_
              rintro e u3 ⟨cs3, p3, c3, bm3, rfl, M3, hm3, N3, hc3, P3⟩
              have Y3 := Y2.off P3 (fun hm => by rcases List.mem_cons.1 hm with h | h; omega; (rcases hcw _ h with h2 | h2; (have := lNs _ h2; omega); omega))
              have zP3 := P3.size
              have lc3 := N3.lts
              have lY3 := Y3.lt
              have hc3w : ∀ y ∈ cs3, y ∈ bs ∨ w.heap.size + 1 ≤ y := fun y hy => by rcases hc3 y hy with h | h; (exact hcw y h); (right; omega)
              have PW3 : Off (b0 :: bs) w u3 := PW.mix P3 (fun y hy => by rcases List.mem_cons.1 hy with h | h; (left; rw [h]; simp); (rcases hcw y h with h2 | h2; (left; simp [h2]); (right; omega)))
              clear KX3 Z1b M1b Z2 M2 Y2 N2 PW P2 P1
              go_wp2_with (refine wpList_store_blk rfl 36 _ _ rfl w.heap.size #[.int .i64 (mOf x3.xQuarrel.xSome 256 ff).xQ, .slice p3 (mOf x3.xQuarrel.xSome 256 ff).xViews.length c3] rfl rfl Y3 rfl (by kernel_rfl) (by kernel_rfl) ?_; intro w20 Y20 O20)
              have ya := Y20.at.1
              try go_wp2
              exact bodyPost_ret (v := .tuple #[.agg #[.int .i64 (mOf x3.xQuarrel.xSome 256 ff).xQ, .slice p3 (mOf x3.xQuarrel.xSome 256 ff).xViews.length c3], .bool (!x3.xQuarrel.xSome)]) (by simp [results, Tryz.results63, go_sem, ya]) rfl (by rw [HXX.out.1, HXX.out.2]; exact ⟨cs3, p3, c3, bm3, rfl, M3.off O20 (fun y hy hm => by have := (hm3 y hy).1; simp at hm; omega), fun y hy => ⟨by have := (hm3 y hy).1; omega, (hm3 y hy).2⟩, N3.off O20 (by simp; omega) (fun y hy hm => by simp at hm; rcases hc3w y hy with h | h; (have := lNs _ h; omega); omega), fun y hy => by rcases hc3w y hy with h | h; (exact .inl h); (right; omega), PW3.mix O20 (fun y hy => by simp at hy; right; omega)⟩)
            · have eX : ijX fs x = ijX2 fs x := ijX_2 (by rw [hx1]; exact hs1) (by rw [hx2]; exact hs2)
              have HXX : Hid (ijX fs x = x2) := by show _ = _; rw [eX, hx2]
              clear eX
              clear Z1 M1 Z1b M1b Z2 M2 HE1 HE2 HE3 HLK HLO HB HAo A2 A3
              go_wp2_with (refine wpList_store_blk rfl 36 _ _ rfl w.heap.size #[.int .i64 0, .slice none 0 0] rfl rfl Y2 rfl (by kernel_rfl) (by kernel_rfl) ?_; intro w20 Y20 O20)
              have ya := Y20.at.1
              try go_wp2
              exact bodyPost_ret (v := .tuple #[.agg #[.int .i64 0, .slice none 0 0], .bool false]) (by simp [results, Tryz.results63, go_sem, ya]) rfl (by rw [HXX.out, hs2, mOf_stop]; exact ⟨cs2, none, 0, [], rfl, Mat.nil _, (fun y hy => by cases hy), N2.off O20 (by simp; omega) (fun y hy hm => by simp at hm; rcases hcw y hy with h | h; (have := lNs _ h; omega); omega), fun y hy => by rcases hcw y hy with h | h; (exact .inl h); (right; omega), PW.mix O20 (fun y hy => by simp at hy; right; omega)⟩)
        · have eX : ijX fs x = ijX1 fs x := ijX_1 (by rw [hx1]; exact hs1)
          have HXX : Hid (ijX fs x = x1) := by show _ = _; rw [eX, hx1]
          clear eX
          have PW : Off (b0 :: bs) w u1 := P4.mix P1 (fun y hy => by rcases List.mem_cons.1 hy with h | h; (left; rw [h]; simp); (left; simp [h]))
          have hcw : ∀ y ∈ cs1, y ∈ bs ∨ w.heap.size + 1 ≤ y := fun y hy => by rcases hc1 y hy with h2 | h2; (exact .inl h2); (right; omega)
          clear Z1 M1 HE1 HE2 HE3 HLK HLO HB HAo A2 A3
          go_wp2_with (refine wpList_store_blk rfl 36 _ _ rfl w.heap.size #[.int .i64 0, .slice none 0 0] rfl rfl Y1 rfl (by kernel_rfl) (by kernel_rfl) ?_; intro w20 Y20 O20)
          have ya := Y20.at.1
          try go_wp2
          exact bodyPost_ret (v := .tuple #[.agg #[.int .i64 0, .slice none 0 0], .bool false]) (by simp [results, Tryz.results63, go_sem, ya]) rfl (by rw [HXX.out, hs1, mOf_stop]; exact ⟨cs1, none, 0, [], rfl, Mat.nil _, (fun y hy => by cases hy), N1.off O20 (by simp; omega) (fun y hy hm => by simp at hm; rcases hcw y hy with h | h; (have := lNs _ h; omega); omega), fun y hy => by rcases hcw y hy with h | h; (exact .inl h); (right; omega), PW.mix O20 (fun y hy => by simp at hy; right; omega)⟩)
end Go.Proofs.YtepobckhfodngaoGreat
