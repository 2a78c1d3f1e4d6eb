/-
  What becomes 0 below 0, in the model: l9Relu.
-/
import Derived.Test.YtepobckhfodngaoGreatRlM
import Derived.Test.YtepobckhfodngaoGreatSgS
import Derived.Test.YtepobckhfodngaoGreatIjS
import Derived.Deep.RegionHeld3
import Derived.Deep.Cut
namespace Go.Proofs.YtepobckhfodngaoGreat
open Go.ChangeShapes Go.WideShapes Go.ChangeAt Go.RowKit
set_option linter.unusedVariables false
set_option maxHeartbeats 16000000 in
set_option maxRecDepth 100000 in
theorem spec_l9Relu (b0 bM : Nat) (pM : Option Addr) (cM : Nat) (x : MNet) (bs : List Nat) (m : Nat) (xss : List (List Int)) (w : World) (N : NetIn w b0 x bs) (hx : NetB m x) (hm : m ≤ 198000) (hq0 : x.xQuarrel.xSome = false) (FB : ∀ W, Off (b0 :: bs) w W → Blk W bM 36 #[.int .i64 256, .slice pM 4 cM] ∧ ReadsM W (.slice pM 4 cM) xss) (hsq : Sq xss) (hbd : ∀ i j, 0 ≤ pt xss i j ∧ pt xss i j < 256) (hown : ∀ i, i < 4 → pt xss i i = 0) :
    Calls Tryz.prog 33 #[.pointer (some ⟨b0, 0, none⟩), .pointer (some ⟨bM, 0, none⟩)] w fun e w' => ∃ cs p c bm, e = .returned (.tuple #[.agg #[.int .i64 (mOf (rlX xss x).xQuarrel.xSome 256 (rlF xss x)).xQ, .slice p (mOf (rlX xss x).xQuarrel.xSome 256 (rlF xss x)).xViews.length c], .bool (!(rlX xss x).xQuarrel.xSome)]) ∧ Mat w' (.slice p (mOf (rlX xss x).xQuarrel.xSome 256 (rlF xss x)).xViews.length c) (mOf (rlX xss x).xQuarrel.xSome 256 (rlF xss x)).xViews bm ∧ (∀ y ∈ bm, w.heap.size ≤ y ∧ y ∉ cs) ∧ NetIn w' b0 (rlX xss x) cs ∧ (∀ y ∈ cs, y ∈ bs ∨ w.heap.size ≤ y) ∧ Off (b0 :: bs) w w' := by
  obtain ⟨hx1, hx2, hx3⟩ := rl_ok hown hx
  obtain ⟨-, -, -, -, -, okF, owF⟩ := sg_ok hown hx
  have FX : ∀ W, Off (b0 :: bs) w W → Four W bM 256 xss := fun W h => ⟨_, (FB W h).1, (FB W h).2, hsq.1, hsq.2, hbd⟩
  have okX := sh_ok16 hsq hbd
  have owX : Own0 xss.flatten := fun p hp => by rw [flat_getD hsq p p hp hp]; exact hown p hp
  have hvM := (FB w (Off.refl _ _)).1
  have eU : unflat xss.flatten = xss := sh_flat hsq
  have KS := spec_l8Sign b0 bM x bs m xss
  have KI := fun W g bs' (hN : NetIn W b0 (sgX xss x) bs') hq hF => spec_l9Inject b0 g (sgX xss x) bs' (m + 252) (unflat (sgF xss x)) W hN hx1 (by omega) hq hF (fun i hi => by rw [pt_unflat _ i i hi hi]; exact owF i hi)
  simp only [unflat_flat okF.1] at KI
  have okA : Ok16 256 (rlA xss x) := xrF_ok _ _ _
  have KD := fun W v u bs' (hN : NetIn W b0 (rlX2 xss x) bs') hq hv hu => spec_l5DotO 256 v u 1 [⟨256, unflat xss.flatten⟩] [⟨256, unflat (rlA xss x)⟩] b0 (rlX2 xss x) bs' (m + 252 + 36) W hN hx2 (by omega) hq hv hu (RowOk_list okX okA owX) rfl
  have e1 : ijX (sgF xss x) (sgX xss x) = rlX2 xss x := rfl
  have e2 : ijF (sgF xss x) (sgX xss x) = rlA xss x := rfl
  rw [e1, e2] at KI
  change ∀ W v u bs', NetIn W b0 (rlX2 xss x) bs' → _ → _ → _ → Calls _ _ _ W (fun e w' => ∃ cs, DotOut W w' e 256 (prF 256 xss.flatten (rlA xss x) (rlX2 xss x)) (rlX3 xss x).xQuarrel.xSome cs ∧ NetIn w' b0 (rlX3 xss x) cs ∧ (∀ y ∈ cs, y ∈ bs' ∨ W.heap.size ≤ y) ∧ Off (b0 :: bs') W w') at KD
  have okP : Ok16 256 (prF 256 xss.flatten (rlA xss x) (rlX2 xss x)) := (prF_ok (.inr rfl) _ _ hx2).2
  have eF : mixRows 256 xss (unflat (prF 256 xss.flatten (rlA xss x) (rlX2 xss x))) (-1) = unflat (rlF xss x) := by
    rw [mixRows_sub]
    unfold rlF subF
    rw [eU, sh_flat (opRows_sq _ _ _ _)]
  have HX1 : Hid ((sgX xss x).xQuarrel.xSome = true → rlX xss x = sgX xss x) := rlX_1
  have HX2 : Hid ((sgX xss x).xQuarrel.xSome = false → (rlX2 xss x).xQuarrel.xSome = true → rlX xss x = rlX2 xss x) := rlX_2
  have HX3 : Hid ((sgX xss x).xQuarrel.xSome = false → (rlX2 xss x).xQuarrel.xSome = false → rlX xss x = rlX3 xss x) := rlX_3
  have HFB : Hid (∀ W, Off (b0 :: bs) w W → Blk W bM 36 #[.int .i64 256, .slice pM 4 cM] ∧ ReadsM W (.slice pM 4 cM) xss) := FB
  have HEU : Hid (unflat xss.flatten = xss) := eU
  have HOF : Hid (Ok16 2 (sgF xss x)) := okF
  have HOP : Hid (Ok16 256 (prF 256 xss.flatten (rlA xss x) (rlX2 xss x))) := okP
  have HEF : Hid (mixRows 256 xss (unflat (prF 256 xss.flatten (rlA xss x) (rlX2 xss x))) (-1) = unflat (rlF xss x)) := eF
  have KS1 := fun W (hN : NetIn W b0 x bs) (hW : Off (b0 :: bs) w W) => KS W hN hx (by omega) hq0 (fun V hV => FX V (hW.trans hV)) hown
  clear KS hx hx1 hx2 hx3 okF owF okX owX okA okP eF eU e1 e2 FX FB hown hq0
  generalize prF 256 xss.flatten (rlA xss x) (rlX2 xss x) = pf at *
  generalize sgF xss x = sf at *
  generalize rlA xss x = af at *
  have lN := N.lt
  have lNs := N.lts
  have lbM := hvM.lt
  have Y0 := Blk.new w 36 #[.int .i64 0, .slice none 0 0]
  have B0 : Below w.heap.size w (w.alloc (.cells #[.int .i64 0, .slice none 0 0] 36)) := (by repeat (first | exact Below.refl _ _ | refine Below.drew ?_ | refine below_drewN ?_ _ | refine Below.setCell ?_ (by first | omega | (simp; done) | (simp; omega)) _ | refine Below.alloc ?_ (by first | omega | (simp; done) | (simp; omega)) _))
  have N0 := N.keep B0
  have z0 : Hid ((w.alloc (.cells #[.int .i64 0, .slice none 0 0] 36)).heap.size = w.heap.size + 1) := by show _ = _; simp
  go_enter Tryz.func33, Tryz.ntmps33
  go_wp2_with fail
  generalize w.alloc (.cells #[.int .i64 0, .slice none 0 0] 36) = w0 at *
  clear N hvM
  refine (KS1 _ N0 (Off.ofBelow B0)).mono ?_
  rintro e w1 ⟨cs1, p1, c1, bm1, rfl, M1, hm1, N1, hcs1, O1⟩
  have P1 : Off (b0 :: bs) w w1 := (Off.ofBelow B0).trans O1
  have z0' := z0.out
  have Y1 := Y0.off O1 (fun hm => by rcases List.mem_cons.1 hm with h | h; omega; (have := lNs _ h; omega))
  have zO1 := O1.size
  have hcw1 : ∀ y ∈ cs1, y ∈ bs ∨ w.heap.size + 1 ≤ y := fun y hy => by rcases hcs1 y hy with h | h; (exact .inl h); (right; omega)
  have l1s := N1.lts
  have l1n := N1.lt
  have ltM1 := M1.lt
  have Sn := Blk.new w1 36 #[.int .i64 0, .slice none 0 0]
  clear KS1 N0 B0 Y0 z0 O1
  generalize hmm : mOf (sgX xss x).xQuarrel.xSome 2 sf = mm at *
  have HMM : Hid (mOf (sgX xss x).xQuarrel.xSome 2 sf = mm) := hmm
  clear hmm
  go_upto_region 2 with (refine wpList_store_blk rfl 36 _ _ rfl w1.heap.size #[.int .i64 mm.xQ, .slice p1 mm.xViews.length c1] rfl rfl Sn rfl (by kernel_rfl) (by kernel_rfl) ?_; intro w2 S2 O2)
  have O2' : Off [w1.heap.size] w1 w2 := ((Off.refl _ _).alloc _).trans O2
  have lY1 := Y1.lt
  have N2 := N1.off O2' (by simp; omega) (fun y hy hm => by have := l1s y hy; simp at hm; omega)
  have Y2 := Y1.off O2' (by simp; omega)
  have M2 := M1.off O2' (fun y hy hm => by have := ltM1 y hy; simp at hm; omega)
  have P2 : Off (b0 :: bs) w w2 := P1.mix O2' (fun y hy => by simp at hy; right; omega)
  have hgS : w.heap.size + 1 ≤ w1.heap.size := by omega
  have ngS : w1.heap.size ∉ cs1 := fun h => by have := l1s _ h; omega
  have zO2 := O2'.size
  clear Sn O2 O2' N1 Y1 M1 P1
  generalize w1.heap.size = gS at *
  have lgS := S2.lt
  cases hs1 : (sgX xss x).xQuarrel.xSome
  · have emm : mm = ⟨2, unflat sf⟩ := by have := HMM.out; rw [hs1, mOf_on] at this; exact this.symm
    subst emm
    change Blk w2 gS 36 #[.int .i64 2, .slice p1 4 c1] at S2
    change Mat w2 (.slice p1 4 c1) (unflat sf) bm1 at M2
    have FS : Four w2 gS 2 (unflat sf) := ⟨_, S2, M2.reads, (unflat_sq sf).1, (unflat_sq sf).2, fun i j => by have := unflat_bdS HOF.out i j; omega⟩
    clear HMM HX1
    go_wp2_with fail
    refine (KI _ gS cs1 N2 hs1 FS).mono ?_
    rintro e w3 ⟨cs2, p2, c2, bm2, rfl, M3, hm3, N3, hcs3, O3⟩
    have nY : w.heap.size ∉ b0 :: cs1 := fun hm => by rcases List.mem_cons.1 hm with h | h; omega; (rcases hcw1 _ h with h2 | h2; (have := lNs _ h2; omega); omega)
    have Y3 := Y2.off O3 nY
    have P3 : Off (b0 :: bs) w w3 := P2.mix O3 (fun y hy => by rcases List.mem_cons.1 hy with h | h; (left; rw [h]; simp); (rcases hcw1 y h with h2 | h2; (left; simp [h2]); (right; omega)))
    have hcw2 : ∀ y ∈ cs2, y ∈ bs ∨ w.heap.size + 1 ≤ y := fun y hy => by rcases hcs3 y hy with h | h; (exact hcw1 y h); (right; omega)
    have zO3 := O3.size
    have l3s := N3.lts
    have l3n := N3.lt
    have ltM3 := M3.lt
    have An := Blk.new w3 36 #[.int .i64 0, .slice none 0 0]
    clear KI N2 Y2 M2 S2 FS P2 O3 hcs3 nY
    generalize hmm : mOf (rlX2 xss x).xQuarrel.xSome 256 af = mm at *
    have HMM : Hid (mOf (rlX2 xss x).xQuarrel.xSome 256 af = mm) := hmm
    clear hmm
    go_upto_region 5 with (refine wpList_store_blk rfl 36 _ _ rfl w3.heap.size #[.int .i64 mm.xQ, .slice p2 mm.xViews.length c2] rfl rfl An rfl (by kernel_rfl) (by kernel_rfl) ?_; intro w4 A4 O4)
    have O4' : Off [w3.heap.size] w3 w4 := ((Off.refl _ _).alloc _).trans O4
    have lY3 := Y3.lt
    have N4 := N3.off O4' (by simp; omega) (fun y hy hm => by have := l3s y hy; simp at hm; omega)
    have Y4 := Y3.off O4' (by simp; omega)
    have M4 := M3.off O4' (fun y hy hm => by have := ltM3 y hy; simp at hm; omega)
    have P4 : Off (b0 :: bs) w w4 := P3.mix O4' (fun y hy => by simp at hy; right; omega)
    have hgA : w.heap.size + 1 ≤ w3.heap.size := by omega
    have ngA : w3.heap.size ∉ cs2 := fun h => by have := l3s _ h; omega
    have nbA : w3.heap.size ∉ bm2 := fun h => by have := ltM3 _ h; omega
    have zO4 := O4'.size
    clear An O4 O4' N3 Y3 M3 P3
    generalize w3.heap.size = gA at *
    have lgA := A4.lt
    cases hs2 : (rlX2 xss x).xQuarrel.xSome
    · have emm : mm = ⟨256, unflat af⟩ := by have := HMM.out; rw [hs2, mOf_on] at this; exact this.symm
      subst emm
      change Blk w4 gA 36 #[.int .i64 256, .slice p2 4 c2] at A4
      change Mat w4 (.slice p2 4 c2) (unflat af) bm2 at M4
      clear HMM HX2
      have e3 := HX3.out hs1 hs2
      have HBM : Hid (∀ V, Off (b0 :: cs2) w4 V → Blk V bM 36 #[.int .i64 256, .slice pM 4 cM] ∧ ReadsM V (.slice pM 4 cM) xss) := fun V hV => HFB.out V (P4.mix hV (fun y hy => by rcases List.mem_cons.1 hy with h | h; (left; rw [h]; simp); (rcases hcw2 y h with h2 | h2; (left; simp [h2]); (right; omega))))
      have nh : ∀ y, w4.heap.size ≤ y → y ∉ b0 :: cs2 := fun y hy hm => by
        have l4s := N4.lts
        rcases List.mem_cons.1 hm with h | h
        · have := N4.lt; omega
        · have := l4s _ h; omega
      have HAA : Hid (∀ V, Off (b0 :: cs2) w4 V → Blk V gA 36 #[.int .i64 256, .slice p2 4 c2] ∧ ReadsM V (.slice p2 4 c2) (unflat af)) := fun V hV => ⟨A4.off hV (fun hm => by rcases List.mem_cons.1 hm with h | h; omega; (exact ngA h)), (M4.off hV (fun y hy hm => by rcases List.mem_cons.1 hm with h | h; (have := (hm3 y hy).1; omega); (exact (hm3 y hy).2 h))).reads⟩
      have HS : Hid (∀ V, Off (b0 :: cs2) w4 V → (∀ o, V.cell? ⟨bM, o, none⟩ = (#[.int .i64 256, .slice pM 4 cM] : Array Value)[o]?) ∧ (∀ o, V.cell? ⟨gA, o, none⟩ = (#[.int .i64 256, .slice p2 4 c2] : Array Value)[o]?)) := fun V hV => ⟨(HBM.out V hV).1.at.1, (HAA.out V hV).1.at.1⟩
      have HSQ : Hid (Sq xss ∧ ∀ i j, 0 ≤ pt xss i j ∧ pt xss i j < 256) := ⟨hsq, hbd⟩
      have l4s := N4.lts
      have l4n := N4.lt
      have KD4 := fun W sx sy (hN : NetIn W b0 (rlX2 xss x) cs2) (hO : Off [] w4 W) (hsx : w4.heap.size ≤ sx) (hsy : w4.heap.size ≤ sy) (SX : Blk W sx 36 #[.int .i64 256, .slice pM 4 cM]) (SY : Blk W sy 36 #[.int .i64 256, .slice p2 4 c2]) => KD W (.slice (some ⟨sx, 0, none⟩) 1 1) (.slice (some ⟨sy, 0, none⟩) 1 1) cs2 hN hs2 (fun V hV => RdMirrorS.one (m := ⟨256, unflat xss.flatten⟩) (SX.off hV (nh _ hsx)) (by show ReadsM V (.slice pM 4 cM) (unflat xss.flatten); rw [HEU.out]; exact (HBM.out V ((hO.mono (by simp)).trans hV)).2)) (fun V hV => RdMirrorS.one (m := ⟨256, unflat af⟩) (SY.off hV (nh _ hsy)) (HAA.out V ((hO.mono (by simp)).trans hV)).2)
      clear A4 M4 HFB KD HAA hsq hbd
      go_wp2_with fail
      go_cut [10, 11] from 29 (fun u s wz => ∃ g p c bm cs, u = .pointer (some ⟨g, 0, none⟩) ∧ s = .bool (!(rlX3 xss x).xQuarrel.xSome) ∧ IjMid w4 wz b0 g cs2 cs bm (rlX3 xss x) pf p c ∧ Blk wz w.heap.size 36 #[.int .i64 0, .slice none 0 0])
      case first =>
        refine wp_region_held (S := fun V => (∀ o, V.cell? ⟨bM, o, none⟩ = (#[.int .i64 256, .slice pM 4 cM] : Array Value)[o]?) ∧ (∀ o, V.cell? ⟨gA, o, none⟩ = (#[.int .i64 256, .slice p2 4 c2] : Array Value)[o]?)) (by kernel_rfl) ?_
        try (change wpAnyH _ _ _ _ _ _ _ _ (World.drew _))
        have bd : Below w4.heap.size w4 w4.drew := (Below.refl _ _).drew
        have Nd := N4.keep bd
        have Yd := Y4.drew
        have hS := HS.out _ (Off.ofBelow bd)
        have lYd := Y4.lt
        have hYn : w.heap.size ∉ b0 :: cs2 := fun hm => by rcases List.mem_cons.1 hm with h | h; omega; (rcases hcw2 _ h with h2 | h2; (have := lNs _ h2; omega); omega)
        generalize w4.drew = ud at *
        refine wpAnyH_take (i := 0) (v := ?vz1) rfl (by kernel_rfl) (by kernel_rfl) (by kernel_rfl) (fun _ _ _ h => h) (Or.inl ⟨by rfl, ?hz1⟩) hS ?rz1
        case hz1 => intro w' hSw; go_simp; (try with_reducible rfl)
        (try simp only [List.getElem_toArray]); (try simp only [List.getElem_cons_succ]); (try simp only [List.getElem_cons_zero]); (try simp only [Act.put]); (try simp only [List.setIfInBounds_toArray]); (try simp only [List.set_cons_succ]); (try simp only [List.set_cons_zero])
        refine wpAnyH_take (i := 1) (v := ?vz2) rfl (by kernel_rfl) (by kernel_rfl) (by kernel_rfl) (fun _ _ _ h => h) (Or.inl ⟨by rfl, ?hz2⟩) hS ?rz2
        case hz2 => intro w' hSw; go_simp; (try with_reducible rfl)
        (try simp only [List.getElem_toArray]); (try simp only [List.getElem_cons_succ]); (try simp only [List.getElem_cons_zero]); (try simp only [Act.put]); (try simp only [List.setIfInBounds_toArray]); (try simp only [List.set_cons_succ]); (try simp only [List.set_cons_zero])
        refine wpAnyH_take (i := 2) (v := ?vz3) rfl (by kernel_rfl) (by kernel_rfl) (by kernel_rfl) (fun _ _ _ h => h) (Or.inl ⟨by rfl, ?hz3⟩) hS ?rz3
        case hz3 => intro w' hSw; go_simp; (try with_reducible rfl)
        (try simp only [List.getElem_toArray]); (try simp only [List.getElem_cons_succ]); (try simp only [List.getElem_cons_zero]); (try simp only [Act.put]); (try simp only [List.setIfInBounds_toArray]); (try simp only [List.set_cons_succ]); (try simp only [List.set_cons_zero])
        refine wpAnyH_take (i := 3) (v := ?vz4) rfl (by kernel_rfl) (by kernel_rfl) (by kernel_rfl) (fun _ _ _ h => h) (Or.inl ⟨by rfl, ?hz4⟩) hS ?rz4
        case hz4 => intro w' hSw; go_simp; (try with_reducible rfl)
        (try simp only [List.getElem_toArray]); (try simp only [List.getElem_cons_succ]); (try simp only [List.getElem_cons_zero]); (try simp only [Act.put]); (try simp only [List.setIfInBounds_toArray]); (try simp only [List.set_cons_succ]); (try simp only [List.set_cons_zero])
        refine wpAnyH_take (i := 5) (v := ?vz5) rfl (by kernel_rfl) (by kernel_rfl) (by kernel_rfl) (fun _ _ _ h => h) (Or.inl ⟨by rfl, ?hz5⟩) hS ?rz5
        case hz5 => intro w' hSw; go_simp; (try with_reducible rfl)
        (try simp only [List.getElem_toArray]); (try simp only [List.getElem_cons_succ]); (try simp only [List.getElem_cons_zero]); (try simp only [Act.put]); (try simp only [List.setIfInBounds_toArray]); (try simp only [List.set_cons_succ]); (try simp only [List.set_cons_zero])
        refine wpAnyH_ready (rs := [4, 6, 11]) (by kernel_rfl) (by simp) ?_
        refine AllReadyH.cons (o := _) rfl (fun K hK => ?_) (AllReadyH.cons (o := _) rfl (fun K hK => ?_) (AllReadyH.cons (o := _) rfl (fun K hK => ?_) AllReadyH.nil))
        · skip
          rw [if_pos (by rfl)]
          go_simp
          have Br6 := Blk.new ud 36 #[.int .i64 256, .slice pM 4 cM]
          have Yr6 := Yd.alloc (.cells #[.int .i64 256, .slice pM 4 cM] 36)
          have Nr6 := Nd.keep ((Below.refl _ _).alloc (Nat.le_refl _) (.cells #[.int .i64 256, .slice pM 4 cM] 36))
          have br6 := bd.alloc bd.size (.cells #[.int .i64 256, .slice pM 4 cM] 36)
          have lS4 : w4.heap.size ≤ ud.heap.size := bd.size
          generalize ud.alloc (.cells #[.int .i64 256, .slice pM 4 cM] 36) = ur6 at *
          generalize ud.heap.size = s4 at *
          refine hK.out _ _ (HS.out _ (Off.ofBelow br6)) (fun hS => ?_)
          clear hK K
          (try simp only [List.getElem_toArray]); (try simp only [List.getElem_cons_succ]); (try simp only [List.getElem_cons_zero]); (try simp only [Act.put]); (try simp only [List.setIfInBounds_toArray]); (try simp only [List.set_cons_succ]); (try simp only [List.set_cons_zero])
          refine wpAnyH_ready (rs := [6, 11]) (by kernel_rfl) (by simp) ?_
          refine AllReadyH.cons (o := _) rfl (fun K hK => ?_) (AllReadyH.cons (o := _) rfl (fun K hK => ?_) AllReadyH.nil)
          · skip
            rw [if_pos (by rfl)]
            go_simp
            have Br7 := Blk.new ur6 36 #[.int .i64 256, .slice p2 4 c2]
            have B4_r7 := Br6.alloc (.cells #[.int .i64 256, .slice p2 4 c2] 36)
            have Yr7 := Yr6.alloc (.cells #[.int .i64 256, .slice p2 4 c2] 36)
            have Nr7 := Nr6.keep ((Below.refl _ _).alloc (Nat.le_refl _) (.cells #[.int .i64 256, .slice p2 4 c2] 36))
            have br7 := br6.alloc br6.size (.cells #[.int .i64 256, .slice p2 4 c2] 36)
            have lS6 : w4.heap.size ≤ ur6.heap.size := br6.size
            generalize ur6.alloc (.cells #[.int .i64 256, .slice p2 4 c2] 36) = ur7 at *
            generalize ur6.heap.size = s6 at *
            refine hK.out _ _ (HS.out _ (Off.ofBelow br7)) (fun hS => ?_)
            clear hK K
            (try simp only [List.getElem_toArray]); (try simp only [List.getElem_cons_succ]); (try simp only [List.getElem_cons_zero]); (try simp only [Act.put]); (try simp only [List.setIfInBounds_toArray]); (try simp only [List.set_cons_succ]); (try simp only [List.set_cons_zero])
            refine wpAnyH_ready (rs := [7, 11]) (by kernel_rfl) (by simp) ?_
            refine AllReadyH.cons (o := _) rfl (fun K hK => ?_) (AllReadyH.cons (o := _) rfl (fun K hK => ?_) AllReadyH.nil)
            · skip
              rw [if_pos (by rfl)]
              go_simp
              go_at_call 64
              refine (KD4 _ _ _ Nr7 (Off.ofBelow br7) lS4 lS6 B4_r7 Br7).mono ?_
              rintro e ur8 ⟨cs, HD, Nr8, hcs0, O⟩
              have zb := br7.size
              have HM : ∃ p c bm, e = .returned (.tuple #[.agg #[.int .i64 (mOf (rlX3 xss x).xQuarrel.xSome 256 pf).xQ, .slice p (mOf (rlX3 xss x).xQuarrel.xSome 256 pf).xViews.length c], .bool (!(rlX3 xss x).xQuarrel.xSome)]) ∧ Mat ur8 (.slice p (mOf (rlX3 xss x).xQuarrel.xSome 256 pf).xViews.length c) (mOf (rlX3 xss x).xQuarrel.xSome 256 pf).xViews bm ∧ (∀ y ∈ bm, ur7.heap.size ≤ y) ∧ ∀ y ∈ bm, y ∉ cs := by
                rcases HD with ⟨hs, rfl⟩ | ⟨hs, z, bm, rfl, hM, hm1, hm2⟩
                · rw [hs]
                  exact ⟨none, 0, [], rfl, Mat.nil _, (fun y hy => by cases hy), fun y hy => by cases hy⟩
                · rw [hs]
                  obtain ⟨p, c, rfl⟩ := hM.value
                  exact ⟨p, c, bm, rfl, hM, hm1, hm2⟩
              obtain ⟨p, c, bm, rfl, Mr8, hbm0, hbm1⟩ := HM
              have Yr8 := Yr7.off O hYn
              have Pr8 : Off (b0 :: cs2) w4 ur8 := (Off.ofBelow br7).trans O
              have hbm : ∀ y ∈ bm, w4.heap.size ≤ y ∧ y ∉ cs := fun y hy => ⟨Nat.le_trans zb (hbm0 y hy), hbm1 y hy⟩
              have hcs : ∀ y ∈ cs, y ∈ cs2 ∨ w4.heap.size ≤ y := fun y hy => by rcases hcs0 y hy with h | h; (exact .inl h); (right; omega)
              clear O hbm0 hcs0
              dsimp only
              refine hK.out _ _ (HS.out _ Pr8) (fun hS => ?_)
              clear hK K
              (try simp only [List.getElem_toArray]); (try simp only [List.getElem_cons_succ]); (try simp only [List.getElem_cons_zero]); (try simp only [Act.put]); (try simp only [List.setIfInBounds_toArray]); (try simp only [List.set_cons_succ]); (try simp only [List.set_cons_zero])
              refine wpAnyH_take (i := 8) (v := ?vz9) rfl (by kernel_rfl) (by kernel_rfl) (by kernel_rfl) (fun _ _ _ h => h) (Or.inl ⟨by rfl, ?hz9⟩) hS ?rz9
              case hz9 => intro w' hSw; go_simp; (try with_reducible rfl)
              (try simp only [List.getElem_toArray]); (try simp only [List.getElem_cons_succ]); (try simp only [List.getElem_cons_zero]); (try simp only [Act.put]); (try simp only [List.setIfInBounds_toArray]); (try simp only [List.set_cons_succ]); (try simp only [List.set_cons_zero])
              refine wpAnyH_take (i := 9) (v := ?vz10) rfl (by kernel_rfl) (by kernel_rfl) (by kernel_rfl) (fun _ _ _ h => h) (Or.inl ⟨by rfl, ?hz10⟩) hS ?rz10
              case hz10 => intro w' hSw; go_simp; (try with_reducible rfl)
              (try simp only [List.getElem_toArray]); (try simp only [List.getElem_cons_succ]); (try simp only [List.getElem_cons_zero]); (try simp only [Act.put]); (try simp only [List.setIfInBounds_toArray]); (try simp only [List.set_cons_succ]); (try simp only [List.set_cons_zero])
              refine wpAnyH_take (i := 10) (v := ?vz11) rfl (by kernel_rfl) (by kernel_rfl) (by kernel_rfl) (fun _ _ _ h => h) (Or.inl ⟨by rfl, ?hz11⟩) hS ?rz11
              case hz11 => intro w' hSw; go_simp; (try with_reducible rfl)
              (try simp only [List.getElem_toArray]); (try simp only [List.getElem_cons_succ]); (try simp only [List.getElem_cons_zero]); (try simp only [Act.put]); (try simp only [List.setIfInBounds_toArray]); (try simp only [List.set_cons_succ]); (try simp only [List.set_cons_zero])
              refine wpAnyH_ready (rs := [11]) (by kernel_rfl) (by simp) ?_
              refine AllReadyH.cons (o := _) rfl (fun K hK => ?_) AllReadyH.nil
              rw [if_pos (by rfl)]
              go_simp
              have Br12 := Blk.new ur8 36 #[.int .i64 0, .slice none 0 0]
              have Yr12 := Yr8.alloc (.cells #[.int .i64 0, .slice none 0 0] 36)
              have Nr12 := Nr8.keep ((Below.refl _ _).alloc (Nat.le_refl _) (.cells #[.int .i64 0, .slice none 0 0] 36))
              have Mr12 := Mr8.alloc (.cells #[.int .i64 0, .slice none 0 0] 36)
              have Pr12 := Pr8.trans (Off.ofBelow ((Below.refl _ _).alloc (Nat.le_refl _) (.cells #[.int .i64 0, .slice none 0 0] 36)))
              have nbm : ur8.heap.size ∉ bm := fun h => by have := Mr8.lt _ h; omega
              have ncs : ur8.heap.size ∉ cs := fun h => by have := Nr8.lts _ h; omega
              have lgn : w4.heap.size ≤ ur8.heap.size := Pr8.size
              generalize ur8.alloc (.cells #[.int .i64 0, .slice none 0 0] 36) = ur12 at *
              generalize ur8.heap.size = gn at *
              refine hK.out _ _ (HS.out _ Pr12) (fun hS => ?_)
              clear hK K
              (try simp only [List.getElem_toArray]); (try simp only [List.getElem_cons_succ]); (try simp only [List.getElem_cons_zero]); (try simp only [Act.put]); (try simp only [List.setIfInBounds_toArray]); (try simp only [List.set_cons_succ]); (try simp only [List.set_cons_zero])
              refine wpAnyH_ready (rs := [12]) (by kernel_rfl) (by simp) ?_
              refine AllReadyH.cons (o := _) rfl (fun K hK => ?_) AllReadyH.nil
              refine step_store_blk rfl 36 _ _ rfl gn #[.int .i64 (mOf (rlX3 xss x).xQuarrel.xSome 256 pf).xQ, .slice p (mOf (rlX3 xss x).xQuarrel.xSome 256 pf).xViews.length c] rfl rfl Br12 rfl (by kernel_rfl) (by kernel_rfl) ?_
              intro ue Ze Oe
              have Me := Mr12.off Oe (fun y hy hm => by simp at hm; exact nbm (hm ▸ hy))
              have Ne := Nr12.off Oe (by simp; omega) (fun y hy hm => by simp at hm; exact ncs (hm ▸ hy))
              have Ye := Yr12.off Oe (by simp; omega)
              have Pe := Pr12.mix Oe (fun y hy => by simp at hy; right; omega)
              refine hK.out _ _ (HS.out _ (Pr12.mix Oe (fun y hy => by simp at hy; right; omega))) (fun hS => ?_)
              clear hK K
              (try simp only [List.getElem_toArray]); (try simp only [List.getElem_cons_succ]); (try simp only [List.getElem_cons_zero]); (try simp only [Act.put]); (try simp only [List.setIfInBounds_toArray]); (try simp only [List.set_cons_succ]); (try simp only [List.set_cons_zero])
              refine wpAnyH_take (i := 13) (v := ?vz13) rfl (by kernel_rfl) (by kernel_rfl) (by kernel_rfl) (fun _ _ _ h => h) (Or.inl ⟨by rfl, ?hz13⟩) hS ?rz13
              case hz13 => intro w' hSw; go_simp; (try with_reducible rfl)
              (try simp only [List.getElem_toArray]); (try simp only [List.getElem_cons_succ]); (try simp only [List.getElem_cons_zero]); (try simp only [Act.put]); (try simp only [List.setIfInBounds_toArray]); (try simp only [List.set_cons_succ]); (try simp only [List.set_cons_zero])
              refine wpAnyH_done (by kernel_rfl) ?_ _
              clear hS
              go_wp2
              go_meet
              case rel => exact ⟨gn, p, c, bm, cs, rfl, rfl, ⟨Ze, Me, hbm, lgn, ncs, nbm, Ne, hcs, Pe⟩, Ye⟩
            · skip
              rw [if_pos (by rfl)]
              go_simp
              have Br14 := Blk.new ur7 36 #[.int .i64 0, .slice none 0 0]
              have B4_r14 := B4_r7.alloc (.cells #[.int .i64 0, .slice none 0 0] 36)
              have B6_r14 := Br7.alloc (.cells #[.int .i64 0, .slice none 0 0] 36)
              have Yr14 := Yr7.alloc (.cells #[.int .i64 0, .slice none 0 0] 36)
              have Nr14 := Nr7.keep ((Below.refl _ _).alloc (Nat.le_refl _) (.cells #[.int .i64 0, .slice none 0 0] 36))
              have br14 := br7.alloc br7.size (.cells #[.int .i64 0, .slice none 0 0] 36)
              have lgn : w4.heap.size ≤ ur7.heap.size := br7.size
              generalize ur7.alloc (.cells #[.int .i64 0, .slice none 0 0] 36) = ur14 at *
              generalize ur7.heap.size = gn at *
              refine hK.out _ _ (HS.out _ (Off.ofBelow br14)) (fun hS => ?_)
              clear hK K
              (try simp only [List.getElem_toArray]); (try simp only [List.getElem_cons_succ]); (try simp only [List.getElem_cons_zero]); (try simp only [Act.put]); (try simp only [List.setIfInBounds_toArray]); (try simp only [List.set_cons_succ]); (try simp only [List.set_cons_zero])
              refine wpAnyH_ready (rs := [7]) (by kernel_rfl) (by simp) ?_
              refine AllReadyH.cons (o := _) rfl (fun K hK => ?_) AllReadyH.nil
              rw [if_pos (by rfl)]
              go_simp
              go_at_call 64
              refine (KD4 _ _ _ Nr14 (Off.ofBelow br14) lS4 lS6 B4_r14 B6_r14).mono ?_
              rintro e ur15 ⟨cs, HD, Nr15, hcs0, O⟩
              have zb := br14.size
              have HM : ∃ p c bm, e = .returned (.tuple #[.agg #[.int .i64 (mOf (rlX3 xss x).xQuarrel.xSome 256 pf).xQ, .slice p (mOf (rlX3 xss x).xQuarrel.xSome 256 pf).xViews.length c], .bool (!(rlX3 xss x).xQuarrel.xSome)]) ∧ Mat ur15 (.slice p (mOf (rlX3 xss x).xQuarrel.xSome 256 pf).xViews.length c) (mOf (rlX3 xss x).xQuarrel.xSome 256 pf).xViews bm ∧ (∀ y ∈ bm, ur14.heap.size ≤ y) ∧ ∀ y ∈ bm, y ∉ cs := by
                rcases HD with ⟨hs, rfl⟩ | ⟨hs, z, bm, rfl, hM, hm1, hm2⟩
                · rw [hs]
                  exact ⟨none, 0, [], rfl, Mat.nil _, (fun y hy => by cases hy), fun y hy => by cases hy⟩
                · rw [hs]
                  obtain ⟨p, c, rfl⟩ := hM.value
                  exact ⟨p, c, bm, rfl, hM, hm1, hm2⟩
              obtain ⟨p, c, bm, rfl, Mr15, hbm0, hbm1⟩ := HM
              have Yr15 := Yr14.off O hYn
              have Pr15 : Off (b0 :: cs2) w4 ur15 := (Off.ofBelow br14).trans O
              have hbm : ∀ y ∈ bm, w4.heap.size ≤ y ∧ y ∉ cs := fun y hy => ⟨Nat.le_trans zb (hbm0 y hy), hbm1 y hy⟩
              have hcs : ∀ y ∈ cs, y ∈ cs2 ∨ w4.heap.size ≤ y := fun y hy => by rcases hcs0 y hy with h | h; (exact .inl h); (right; omega)
              have Er15 := Br14.off O (nh _ lgn)
              have lnb := Br14.lt
              have nbm : gn ∉ bm := fun h => by have := hbm0 _ h; omega
              have ncs : gn ∉ cs := fun h => by rcases hcs0 _ h with h2 | h2; (have := l4s _ h2; omega); omega
              clear O hbm0 hcs0
              dsimp only
              refine hK.out _ _ (HS.out _ Pr15) (fun hS => ?_)
              clear hK K
              (try simp only [List.getElem_toArray]); (try simp only [List.getElem_cons_succ]); (try simp only [List.getElem_cons_zero]); (try simp only [Act.put]); (try simp only [List.setIfInBounds_toArray]); (try simp only [List.set_cons_succ]); (try simp only [List.set_cons_zero])
              refine wpAnyH_take (i := 8) (v := ?vz16) rfl (by kernel_rfl) (by kernel_rfl) (by kernel_rfl) (fun _ _ _ h => h) (Or.inl ⟨by rfl, ?hz16⟩) hS ?rz16
              case hz16 => intro w' hSw; go_simp; (try with_reducible rfl)
              (try simp only [List.getElem_toArray]); (try simp only [List.getElem_cons_succ]); (try simp only [List.getElem_cons_zero]); (try simp only [Act.put]); (try simp only [List.setIfInBounds_toArray]); (try simp only [List.set_cons_succ]); (try simp only [List.set_cons_zero])
              refine wpAnyH_take (i := 9) (v := ?vz17) rfl (by kernel_rfl) (by kernel_rfl) (by kernel_rfl) (fun _ _ _ h => h) (Or.inl ⟨by rfl, ?hz17⟩) hS ?rz17
              case hz17 => intro w' hSw; go_simp; (try with_reducible rfl)
              (try simp only [List.getElem_toArray]); (try simp only [List.getElem_cons_succ]); (try simp only [List.getElem_cons_zero]); (try simp only [Act.put]); (try simp only [List.setIfInBounds_toArray]); (try simp only [List.set_cons_succ]); (try simp only [List.set_cons_zero])
              refine wpAnyH_take (i := 10) (v := ?vz18) rfl (by kernel_rfl) (by kernel_rfl) (by kernel_rfl) (fun _ _ _ h => h) (Or.inl ⟨by rfl, ?hz18⟩) hS ?rz18
              case hz18 => intro w' hSw; go_simp; (try with_reducible rfl)
              (try simp only [List.getElem_toArray]); (try simp only [List.getElem_cons_succ]); (try simp only [List.getElem_cons_zero]); (try simp only [Act.put]); (try simp only [List.setIfInBounds_toArray]); (try simp only [List.set_cons_succ]); (try simp only [List.set_cons_zero])
              refine wpAnyH_ready (rs := [12]) (by kernel_rfl) (by simp) ?_
              refine AllReadyH.cons (o := _) rfl (fun K hK => ?_) AllReadyH.nil
              refine step_store_blk rfl 36 _ _ rfl gn #[.int .i64 (mOf (rlX3 xss x).xQuarrel.xSome 256 pf).xQ, .slice p (mOf (rlX3 xss x).xQuarrel.xSome 256 pf).xViews.length c] rfl rfl Er15 rfl (by kernel_rfl) (by kernel_rfl) ?_
              intro ue Ze Oe
              have Me := Mr15.off Oe (fun y hy hm => by simp at hm; exact nbm (hm ▸ hy))
              have Ne := Nr15.off Oe (by simp; omega) (fun y hy hm => by simp at hm; exact ncs (hm ▸ hy))
              have Ye := Yr15.off Oe (by simp; omega)
              have Pe := Pr15.mix Oe (fun y hy => by simp at hy; right; omega)
              refine hK.out _ _ (HS.out _ (Pr15.mix Oe (fun y hy => by simp at hy; right; omega))) (fun hS => ?_)
              clear hK K
              (try simp only [List.getElem_toArray]); (try simp only [List.getElem_cons_succ]); (try simp only [List.getElem_cons_zero]); (try simp only [Act.put]); (try simp only [List.setIfInBounds_toArray]); (try simp only [List.set_cons_succ]); (try simp only [List.set_cons_zero])
              refine wpAnyH_take (i := 13) (v := ?vz19) rfl (by kernel_rfl) (by kernel_rfl) (by kernel_rfl) (fun _ _ _ h => h) (Or.inl ⟨by rfl, ?hz19⟩) hS ?rz19
              case hz19 => intro w' hSw; go_simp; (try with_reducible rfl)
              (try simp only [List.getElem_toArray]); (try simp only [List.getElem_cons_succ]); (try simp only [List.getElem_cons_zero]); (try simp only [Act.put]); (try simp only [List.setIfInBounds_toArray]); (try simp only [List.set_cons_succ]); (try simp only [List.set_cons_zero])
              refine wpAnyH_done (by kernel_rfl) ?_ _
              clear hS
              go_wp2
              go_meet
              case rel => exact ⟨gn, p, c, bm, cs, rfl, rfl, ⟨Ze, Me, hbm, lgn, ncs, nbm, Ne, hcs, Pe⟩, Ye⟩
          · skip
            rw [if_pos (by rfl)]
            go_simp
            have Br20 := Blk.new ur6 36 #[.int .i64 0, .slice none 0 0]
            have B4_r20 := Br6.alloc (.cells #[.int .i64 0, .slice none 0 0] 36)
            have Yr20 := Yr6.alloc (.cells #[.int .i64 0, .slice none 0 0] 36)
            have Nr20 := Nr6.keep ((Below.refl _ _).alloc (Nat.le_refl _) (.cells #[.int .i64 0, .slice none 0 0] 36))
            have br20 := br6.alloc br6.size (.cells #[.int .i64 0, .slice none 0 0] 36)
            have lgn : w4.heap.size ≤ ur6.heap.size := br6.size
            generalize ur6.alloc (.cells #[.int .i64 0, .slice none 0 0] 36) = ur20 at *
            generalize ur6.heap.size = gn at *
            refine hK.out _ _ (HS.out _ (Off.ofBelow br20)) (fun hS => ?_)
            clear hK K
            (try simp only [List.getElem_toArray]); (try simp only [List.getElem_cons_succ]); (try simp only [List.getElem_cons_zero]); (try simp only [Act.put]); (try simp only [List.setIfInBounds_toArray]); (try simp only [List.set_cons_succ]); (try simp only [List.set_cons_zero])
            refine wpAnyH_ready (rs := [6]) (by kernel_rfl) (by simp) ?_
            refine AllReadyH.cons (o := _) rfl (fun K hK => ?_) AllReadyH.nil
            rw [if_pos (by rfl)]
            go_simp
            have Br21 := Blk.new ur20 36 #[.int .i64 256, .slice p2 4 c2]
            have B4_r21 := B4_r20.alloc (.cells #[.int .i64 256, .slice p2 4 c2] 36)
            have B11_r21 := Br20.alloc (.cells #[.int .i64 256, .slice p2 4 c2] 36)
            have Yr21 := Yr20.alloc (.cells #[.int .i64 256, .slice p2 4 c2] 36)
            have Nr21 := Nr20.keep ((Below.refl _ _).alloc (Nat.le_refl _) (.cells #[.int .i64 256, .slice p2 4 c2] 36))
            have br21 := br20.alloc br20.size (.cells #[.int .i64 256, .slice p2 4 c2] 36)
            have lS6 : w4.heap.size ≤ ur20.heap.size := br20.size
            generalize ur20.alloc (.cells #[.int .i64 256, .slice p2 4 c2] 36) = ur21 at *
            generalize ur20.heap.size = s6 at *
            refine hK.out _ _ (HS.out _ (Off.ofBelow br21)) (fun hS => ?_)
            clear hK K
            (try simp only [List.getElem_toArray]); (try simp only [List.getElem_cons_succ]); (try simp only [List.getElem_cons_zero]); (try simp only [Act.put]); (try simp only [List.setIfInBounds_toArray]); (try simp only [List.set_cons_succ]); (try simp only [List.set_cons_zero])
            refine wpAnyH_ready (rs := [7]) (by kernel_rfl) (by simp) ?_
            refine AllReadyH.cons (o := _) rfl (fun K hK => ?_) AllReadyH.nil
            rw [if_pos (by rfl)]
            go_simp
            go_at_call 64
            refine (KD4 _ _ _ Nr21 (Off.ofBelow br21) lS4 lS6 B4_r21 Br21).mono ?_
            rintro e ur22 ⟨cs, HD, Nr22, hcs0, O⟩
            have zb := br21.size
            have HM : ∃ p c bm, e = .returned (.tuple #[.agg #[.int .i64 (mOf (rlX3 xss x).xQuarrel.xSome 256 pf).xQ, .slice p (mOf (rlX3 xss x).xQuarrel.xSome 256 pf).xViews.length c], .bool (!(rlX3 xss x).xQuarrel.xSome)]) ∧ Mat ur22 (.slice p (mOf (rlX3 xss x).xQuarrel.xSome 256 pf).xViews.length c) (mOf (rlX3 xss x).xQuarrel.xSome 256 pf).xViews bm ∧ (∀ y ∈ bm, ur21.heap.size ≤ y) ∧ ∀ y ∈ bm, y ∉ cs := by
              rcases HD with ⟨hs, rfl⟩ | ⟨hs, z, bm, rfl, hM, hm1, hm2⟩
              · rw [hs]
                exact ⟨none, 0, [], rfl, Mat.nil _, (fun y hy => by cases hy), fun y hy => by cases hy⟩
              · rw [hs]
                obtain ⟨p, c, rfl⟩ := hM.value
                exact ⟨p, c, bm, rfl, hM, hm1, hm2⟩
            obtain ⟨p, c, bm, rfl, Mr22, hbm0, hbm1⟩ := HM
            have Yr22 := Yr21.off O hYn
            have Pr22 : Off (b0 :: cs2) w4 ur22 := (Off.ofBelow br21).trans O
            have hbm : ∀ y ∈ bm, w4.heap.size ≤ y ∧ y ∉ cs := fun y hy => ⟨Nat.le_trans zb (hbm0 y hy), hbm1 y hy⟩
            have hcs : ∀ y ∈ cs, y ∈ cs2 ∨ w4.heap.size ≤ y := fun y hy => by rcases hcs0 y hy with h | h; (exact .inl h); (right; omega)
            have Er22 := B11_r21.off O (nh _ lgn)
            have lnb := B11_r21.lt
            have nbm : gn ∉ bm := fun h => by have := hbm0 _ h; omega
            have ncs : gn ∉ cs := fun h => by rcases hcs0 _ h with h2 | h2; (have := l4s _ h2; omega); omega
            clear O hbm0 hcs0
            dsimp only
            refine hK.out _ _ (HS.out _ Pr22) (fun hS => ?_)
            clear hK K
            (try simp only [List.getElem_toArray]); (try simp only [List.getElem_cons_succ]); (try simp only [List.getElem_cons_zero]); (try simp only [Act.put]); (try simp only [List.setIfInBounds_toArray]); (try simp only [List.set_cons_succ]); (try simp only [List.set_cons_zero])
            refine wpAnyH_take (i := 8) (v := ?vz23) rfl (by kernel_rfl) (by kernel_rfl) (by kernel_rfl) (fun _ _ _ h => h) (Or.inl ⟨by rfl, ?hz23⟩) hS ?rz23
            case hz23 => intro w' hSw; go_simp; (try with_reducible rfl)
            (try simp only [List.getElem_toArray]); (try simp only [List.getElem_cons_succ]); (try simp only [List.getElem_cons_zero]); (try simp only [Act.put]); (try simp only [List.setIfInBounds_toArray]); (try simp only [List.set_cons_succ]); (try simp only [List.set_cons_zero])
            refine wpAnyH_take (i := 9) (v := ?vz24) rfl (by kernel_rfl) (by kernel_rfl) (by kernel_rfl) (fun _ _ _ h => h) (Or.inl ⟨by rfl, ?hz24⟩) hS ?rz24
            case hz24 => intro w' hSw; go_simp; (try with_reducible rfl)
            (try simp only [List.getElem_toArray]); (try simp only [List.getElem_cons_succ]); (try simp only [List.getElem_cons_zero]); (try simp only [Act.put]); (try simp only [List.setIfInBounds_toArray]); (try simp only [List.set_cons_succ]); (try simp only [List.set_cons_zero])
            refine wpAnyH_take (i := 10) (v := ?vz25) rfl (by kernel_rfl) (by kernel_rfl) (by kernel_rfl) (fun _ _ _ h => h) (Or.inl ⟨by rfl, ?hz25⟩) hS ?rz25
            case hz25 => intro w' hSw; go_simp; (try with_reducible rfl)
            (try simp only [List.getElem_toArray]); (try simp only [List.getElem_cons_succ]); (try simp only [List.getElem_cons_zero]); (try simp only [Act.put]); (try simp only [List.setIfInBounds_toArray]); (try simp only [List.set_cons_succ]); (try simp only [List.set_cons_zero])
            refine wpAnyH_ready (rs := [12]) (by kernel_rfl) (by simp) ?_
            refine AllReadyH.cons (o := _) rfl (fun K hK => ?_) AllReadyH.nil
            refine step_store_blk rfl 36 _ _ rfl gn #[.int .i64 (mOf (rlX3 xss x).xQuarrel.xSome 256 pf).xQ, .slice p (mOf (rlX3 xss x).xQuarrel.xSome 256 pf).xViews.length c] rfl rfl Er22 rfl (by kernel_rfl) (by kernel_rfl) ?_
            intro ue Ze Oe
            have Me := Mr22.off Oe (fun y hy hm => by simp at hm; exact nbm (hm ▸ hy))
            have Ne := Nr22.off Oe (by simp; omega) (fun y hy hm => by simp at hm; exact ncs (hm ▸ hy))
            have Ye := Yr22.off Oe (by simp; omega)
            have Pe := Pr22.mix Oe (fun y hy => by simp at hy; right; omega)
            refine hK.out _ _ (HS.out _ (Pr22.mix Oe (fun y hy => by simp at hy; right; omega))) (fun hS => ?_)
            clear hK K
            (try simp only [List.getElem_toArray]); (try simp only [List.getElem_cons_succ]); (try simp only [List.getElem_cons_zero]); (try simp only [Act.put]); (try simp only [List.setIfInBounds_toArray]); (try simp only [List.set_cons_succ]); (try simp only [List.set_cons_zero])
            refine wpAnyH_take (i := 13) (v := ?vz26) rfl (by kernel_rfl) (by kernel_rfl) (by kernel_rfl) (fun _ _ _ h => h) (Or.inl ⟨by rfl, ?hz26⟩) hS ?rz26
            case hz26 => intro w' hSw; go_simp; (try with_reducible rfl)
            (try simp only [List.getElem_toArray]); (try simp only [List.getElem_cons_succ]); (try simp only [List.getElem_cons_zero]); (try simp only [Act.put]); (try simp only [List.setIfInBounds_toArray]); (try simp only [List.set_cons_succ]); (try simp only [List.set_cons_zero])
            refine wpAnyH_done (by kernel_rfl) ?_ _
            clear hS
            go_wp2
            go_meet
            case rel => exact ⟨gn, p, c, bm, cs, rfl, rfl, ⟨Ze, Me, hbm, lgn, ncs, nbm, Ne, hcs, Pe⟩, Ye⟩
        · skip
          rw [if_pos (by rfl)]
          go_simp
          have Br27 := Blk.new ud 36 #[.int .i64 256, .slice p2 4 c2]
          have Yr27 := Yd.alloc (.cells #[.int .i64 256, .slice p2 4 c2] 36)
          have Nr27 := Nd.keep ((Below.refl _ _).alloc (Nat.le_refl _) (.cells #[.int .i64 256, .slice p2 4 c2] 36))
          have br27 := bd.alloc bd.size (.cells #[.int .i64 256, .slice p2 4 c2] 36)
          have lS6 : w4.heap.size ≤ ud.heap.size := bd.size
          generalize ud.alloc (.cells #[.int .i64 256, .slice p2 4 c2] 36) = ur27 at *
          generalize ud.heap.size = s6 at *
          refine hK.out _ _ (HS.out _ (Off.ofBelow br27)) (fun hS => ?_)
          clear hK K
          (try simp only [List.getElem_toArray]); (try simp only [List.getElem_cons_succ]); (try simp only [List.getElem_cons_zero]); (try simp only [Act.put]); (try simp only [List.setIfInBounds_toArray]); (try simp only [List.set_cons_succ]); (try simp only [List.set_cons_zero])
          refine wpAnyH_ready (rs := [4, 11]) (by kernel_rfl) (by simp) ?_
          refine AllReadyH.cons (o := _) rfl (fun K hK => ?_) (AllReadyH.cons (o := _) rfl (fun K hK => ?_) AllReadyH.nil)
          · skip
            rw [if_pos (by rfl)]
            go_simp
            have Br28 := Blk.new ur27 36 #[.int .i64 256, .slice pM 4 cM]
            have B6_r28 := Br27.alloc (.cells #[.int .i64 256, .slice pM 4 cM] 36)
            have Yr28 := Yr27.alloc (.cells #[.int .i64 256, .slice pM 4 cM] 36)
            have Nr28 := Nr27.keep ((Below.refl _ _).alloc (Nat.le_refl _) (.cells #[.int .i64 256, .slice pM 4 cM] 36))
            have br28 := br27.alloc br27.size (.cells #[.int .i64 256, .slice pM 4 cM] 36)
            have lS4 : w4.heap.size ≤ ur27.heap.size := br27.size
            generalize ur27.alloc (.cells #[.int .i64 256, .slice pM 4 cM] 36) = ur28 at *
            generalize ur27.heap.size = s4 at *
            refine hK.out _ _ (HS.out _ (Off.ofBelow br28)) (fun hS => ?_)
            clear hK K
            (try simp only [List.getElem_toArray]); (try simp only [List.getElem_cons_succ]); (try simp only [List.getElem_cons_zero]); (try simp only [Act.put]); (try simp only [List.setIfInBounds_toArray]); (try simp only [List.set_cons_succ]); (try simp only [List.set_cons_zero])
            refine wpAnyH_ready (rs := [7, 11]) (by kernel_rfl) (by simp) ?_
            refine AllReadyH.cons (o := _) rfl (fun K hK => ?_) (AllReadyH.cons (o := _) rfl (fun K hK => ?_) AllReadyH.nil)
            · skip
              rw [if_pos (by rfl)]
              go_simp
              go_at_call 64
              refine (KD4 _ _ _ Nr28 (Off.ofBelow br28) lS4 lS6 Br28 B6_r28).mono ?_
              rintro e ur29 ⟨cs, HD, Nr29, hcs0, O⟩
              have zb := br28.size
              have HM : ∃ p c bm, e = .returned (.tuple #[.agg #[.int .i64 (mOf (rlX3 xss x).xQuarrel.xSome 256 pf).xQ, .slice p (mOf (rlX3 xss x).xQuarrel.xSome 256 pf).xViews.length c], .bool (!(rlX3 xss x).xQuarrel.xSome)]) ∧ Mat ur29 (.slice p (mOf (rlX3 xss x).xQuarrel.xSome 256 pf).xViews.length c) (mOf (rlX3 xss x).xQuarrel.xSome 256 pf).xViews bm ∧ (∀ y ∈ bm, ur28.heap.size ≤ y) ∧ ∀ y ∈ bm, y ∉ cs := by
                rcases HD with ⟨hs, rfl⟩ | ⟨hs, z, bm, rfl, hM, hm1, hm2⟩
                · rw [hs]
                  exact ⟨none, 0, [], rfl, Mat.nil _, (fun y hy => by cases hy), fun y hy => by cases hy⟩
                · rw [hs]
                  obtain ⟨p, c, rfl⟩ := hM.value
                  exact ⟨p, c, bm, rfl, hM, hm1, hm2⟩
              obtain ⟨p, c, bm, rfl, Mr29, hbm0, hbm1⟩ := HM
              have Yr29 := Yr28.off O hYn
              have Pr29 : Off (b0 :: cs2) w4 ur29 := (Off.ofBelow br28).trans O
              have hbm : ∀ y ∈ bm, w4.heap.size ≤ y ∧ y ∉ cs := fun y hy => ⟨Nat.le_trans zb (hbm0 y hy), hbm1 y hy⟩
              have hcs : ∀ y ∈ cs, y ∈ cs2 ∨ w4.heap.size ≤ y := fun y hy => by rcases hcs0 y hy with h | h; (exact .inl h); (right; omega)
              clear O hbm0 hcs0
              dsimp only
              refine hK.out _ _ (HS.out _ Pr29) (fun hS => ?_)
              clear hK K
              (try simp only [List.getElem_toArray]); (try simp only [List.getElem_cons_succ]); (try simp only [List.getElem_cons_zero]); (try simp only [Act.put]); (try simp only [List.setIfInBounds_toArray]); (try simp only [List.set_cons_succ]); (try simp only [List.set_cons_zero])
              refine wpAnyH_take (i := 8) (v := ?vz30) rfl (by kernel_rfl) (by kernel_rfl) (by kernel_rfl) (fun _ _ _ h => h) (Or.inl ⟨by rfl, ?hz30⟩) hS ?rz30
              case hz30 => intro w' hSw; go_simp; (try with_reducible rfl)
              (try simp only [List.getElem_toArray]); (try simp only [List.getElem_cons_succ]); (try simp only [List.getElem_cons_zero]); (try simp only [Act.put]); (try simp only [List.setIfInBounds_toArray]); (try simp only [List.set_cons_succ]); (try simp only [List.set_cons_zero])
              refine wpAnyH_take (i := 9) (v := ?vz31) rfl (by kernel_rfl) (by kernel_rfl) (by kernel_rfl) (fun _ _ _ h => h) (Or.inl ⟨by rfl, ?hz31⟩) hS ?rz31
              case hz31 => intro w' hSw; go_simp; (try with_reducible rfl)
              (try simp only [List.getElem_toArray]); (try simp only [List.getElem_cons_succ]); (try simp only [List.getElem_cons_zero]); (try simp only [Act.put]); (try simp only [List.setIfInBounds_toArray]); (try simp only [List.set_cons_succ]); (try simp only [List.set_cons_zero])
              refine wpAnyH_take (i := 10) (v := ?vz32) rfl (by kernel_rfl) (by kernel_rfl) (by kernel_rfl) (fun _ _ _ h => h) (Or.inl ⟨by rfl, ?hz32⟩) hS ?rz32
              case hz32 => intro w' hSw; go_simp; (try with_reducible rfl)
              (try simp only [List.getElem_toArray]); (try simp only [List.getElem_cons_succ]); (try simp only [List.getElem_cons_zero]); (try simp only [Act.put]); (try simp only [List.setIfInBounds_toArray]); (try simp only [List.set_cons_succ]); (try simp only [List.set_cons_zero])
              refine wpAnyH_ready (rs := [11]) (by kernel_rfl) (by simp) ?_
              refine AllReadyH.cons (o := _) rfl (fun K hK => ?_) AllReadyH.nil
              rw [if_pos (by rfl)]
              go_simp
              have Br33 := Blk.new ur29 36 #[.int .i64 0, .slice none 0 0]
              have Yr33 := Yr29.alloc (.cells #[.int .i64 0, .slice none 0 0] 36)
              have Nr33 := Nr29.keep ((Below.refl _ _).alloc (Nat.le_refl _) (.cells #[.int .i64 0, .slice none 0 0] 36))
              have Mr33 := Mr29.alloc (.cells #[.int .i64 0, .slice none 0 0] 36)
              have Pr33 := Pr29.trans (Off.ofBelow ((Below.refl _ _).alloc (Nat.le_refl _) (.cells #[.int .i64 0, .slice none 0 0] 36)))
              have nbm : ur29.heap.size ∉ bm := fun h => by have := Mr29.lt _ h; omega
              have ncs : ur29.heap.size ∉ cs := fun h => by have := Nr29.lts _ h; omega
              have lgn : w4.heap.size ≤ ur29.heap.size := Pr29.size
              generalize ur29.alloc (.cells #[.int .i64 0, .slice none 0 0] 36) = ur33 at *
              generalize ur29.heap.size = gn at *
              refine hK.out _ _ (HS.out _ Pr33) (fun hS => ?_)
              clear hK K
              (try simp only [List.getElem_toArray]); (try simp only [List.getElem_cons_succ]); (try simp only [List.getElem_cons_zero]); (try simp only [Act.put]); (try simp only [List.setIfInBounds_toArray]); (try simp only [List.set_cons_succ]); (try simp only [List.set_cons_zero])
              refine wpAnyH_ready (rs := [12]) (by kernel_rfl) (by simp) ?_
              refine AllReadyH.cons (o := _) rfl (fun K hK => ?_) AllReadyH.nil
              refine step_store_blk rfl 36 _ _ rfl gn #[.int .i64 (mOf (rlX3 xss x).xQuarrel.xSome 256 pf).xQ, .slice p (mOf (rlX3 xss x).xQuarrel.xSome 256 pf).xViews.length c] rfl rfl Br33 rfl (by kernel_rfl) (by kernel_rfl) ?_
              intro ue Ze Oe
              have Me := Mr33.off Oe (fun y hy hm => by simp at hm; exact nbm (hm ▸ hy))
              have Ne := Nr33.off Oe (by simp; omega) (fun y hy hm => by simp at hm; exact ncs (hm ▸ hy))
              have Ye := Yr33.off Oe (by simp; omega)
              have Pe := Pr33.mix Oe (fun y hy => by simp at hy; right; omega)
              refine hK.out _ _ (HS.out _ (Pr33.mix Oe (fun y hy => by simp at hy; right; omega))) (fun hS => ?_)
              clear hK K
              (try simp only [List.getElem_toArray]); (try simp only [List.getElem_cons_succ]); (try simp only [List.getElem_cons_zero]); (try simp only [Act.put]); (try simp only [List.setIfInBounds_toArray]); (try simp only [List.set_cons_succ]); (try simp only [List.set_cons_zero])
              refine wpAnyH_take (i := 13) (v := ?vz34) rfl (by kernel_rfl) (by kernel_rfl) (by kernel_rfl) (fun _ _ _ h => h) (Or.inl ⟨by rfl, ?hz34⟩) hS ?rz34
              case hz34 => intro w' hSw; go_simp; (try with_reducible rfl)
              (try simp only [List.getElem_toArray]); (try simp only [List.getElem_cons_succ]); (try simp only [List.getElem_cons_zero]); (try simp only [Act.put]); (try simp only [List.setIfInBounds_toArray]); (try simp only [List.set_cons_succ]); (try simp only [List.set_cons_zero])
              refine wpAnyH_done (by kernel_rfl) ?_ _
              clear hS
              go_wp2
              go_meet
              case rel => exact ⟨gn, p, c, bm, cs, rfl, rfl, ⟨Ze, Me, hbm, lgn, ncs, nbm, Ne, hcs, Pe⟩, Ye⟩
            · skip
              rw [if_pos (by rfl)]
              go_simp
              have Br35 := Blk.new ur28 36 #[.int .i64 0, .slice none 0 0]
              have B4_r35 := Br28.alloc (.cells #[.int .i64 0, .slice none 0 0] 36)
              have B6_r35 := B6_r28.alloc (.cells #[.int .i64 0, .slice none 0 0] 36)
              have Yr35 := Yr28.alloc (.cells #[.int .i64 0, .slice none 0 0] 36)
              have Nr35 := Nr28.keep ((Below.refl _ _).alloc (Nat.le_refl _) (.cells #[.int .i64 0, .slice none 0 0] 36))
              have br35 := br28.alloc br28.size (.cells #[.int .i64 0, .slice none 0 0] 36)
              have lgn : w4.heap.size ≤ ur28.heap.size := br28.size
              generalize ur28.alloc (.cells #[.int .i64 0, .slice none 0 0] 36) = ur35 at *
              generalize ur28.heap.size = gn at *
              refine hK.out _ _ (HS.out _ (Off.ofBelow br35)) (fun hS => ?_)
              clear hK K
              (try simp only [List.getElem_toArray]); (try simp only [List.getElem_cons_succ]); (try simp only [List.getElem_cons_zero]); (try simp only [Act.put]); (try simp only [List.setIfInBounds_toArray]); (try simp only [List.set_cons_succ]); (try simp only [List.set_cons_zero])
              refine wpAnyH_ready (rs := [7]) (by kernel_rfl) (by simp) ?_
              refine AllReadyH.cons (o := _) rfl (fun K hK => ?_) AllReadyH.nil
              rw [if_pos (by rfl)]
              go_simp
              go_at_call 64
              refine (KD4 _ _ _ Nr35 (Off.ofBelow br35) lS4 lS6 B4_r35 B6_r35).mono ?_
              rintro e ur36 ⟨cs, HD, Nr36, hcs0, O⟩
              have zb := br35.size
              have HM : ∃ p c bm, e = .returned (.tuple #[.agg #[.int .i64 (mOf (rlX3 xss x).xQuarrel.xSome 256 pf).xQ, .slice p (mOf (rlX3 xss x).xQuarrel.xSome 256 pf).xViews.length c], .bool (!(rlX3 xss x).xQuarrel.xSome)]) ∧ Mat ur36 (.slice p (mOf (rlX3 xss x).xQuarrel.xSome 256 pf).xViews.length c) (mOf (rlX3 xss x).xQuarrel.xSome 256 pf).xViews bm ∧ (∀ y ∈ bm, ur35.heap.size ≤ y) ∧ ∀ y ∈ bm, y ∉ cs := by
                rcases HD with ⟨hs, rfl⟩ | ⟨hs, z, bm, rfl, hM, hm1, hm2⟩
                · rw [hs]
                  exact ⟨none, 0, [], rfl, Mat.nil _, (fun y hy => by cases hy), fun y hy => by cases hy⟩
                · rw [hs]
                  obtain ⟨p, c, rfl⟩ := hM.value
                  exact ⟨p, c, bm, rfl, hM, hm1, hm2⟩
              obtain ⟨p, c, bm, rfl, Mr36, hbm0, hbm1⟩ := HM
              have Yr36 := Yr35.off O hYn
              have Pr36 : Off (b0 :: cs2) w4 ur36 := (Off.ofBelow br35).trans O
              have hbm : ∀ y ∈ bm, w4.heap.size ≤ y ∧ y ∉ cs := fun y hy => ⟨Nat.le_trans zb (hbm0 y hy), hbm1 y hy⟩
              have hcs : ∀ y ∈ cs, y ∈ cs2 ∨ w4.heap.size ≤ y := fun y hy => by rcases hcs0 y hy with h | h; (exact .inl h); (right; omega)
              have Er36 := Br35.off O (nh _ lgn)
              have lnb := Br35.lt
              have nbm : gn ∉ bm := fun h => by have := hbm0 _ h; omega
              have ncs : gn ∉ cs := fun h => by rcases hcs0 _ h with h2 | h2; (have := l4s _ h2; omega); omega
              clear O hbm0 hcs0
              dsimp only
              refine hK.out _ _ (HS.out _ Pr36) (fun hS => ?_)
              clear hK K
              (try simp only [List.getElem_toArray]); (try simp only [List.getElem_cons_succ]); (try simp only [List.getElem_cons_zero]); (try simp only [Act.put]); (try simp only [List.setIfInBounds_toArray]); (try simp only [List.set_cons_succ]); (try simp only [List.set_cons_zero])
              refine wpAnyH_take (i := 8) (v := ?vz37) rfl (by kernel_rfl) (by kernel_rfl) (by kernel_rfl) (fun _ _ _ h => h) (Or.inl ⟨by rfl, ?hz37⟩) hS ?rz37
              case hz37 => intro w' hSw; go_simp; (try with_reducible rfl)
              (try simp only [List.getElem_toArray]); (try simp only [List.getElem_cons_succ]); (try simp only [List.getElem_cons_zero]); (try simp only [Act.put]); (try simp only [List.setIfInBounds_toArray]); (try simp only [List.set_cons_succ]); (try simp only [List.set_cons_zero])
              refine wpAnyH_take (i := 9) (v := ?vz38) rfl (by kernel_rfl) (by kernel_rfl) (by kernel_rfl) (fun _ _ _ h => h) (Or.inl ⟨by rfl, ?hz38⟩) hS ?rz38
              case hz38 => intro w' hSw; go_simp; (try with_reducible rfl)
              (try simp only [List.getElem_toArray]); (try simp only [List.getElem_cons_succ]); (try simp only [List.getElem_cons_zero]); (try simp only [Act.put]); (try simp only [List.setIfInBounds_toArray]); (try simp only [List.set_cons_succ]); (try simp only [List.set_cons_zero])
              refine wpAnyH_take (i := 10) (v := ?vz39) rfl (by kernel_rfl) (by kernel_rfl) (by kernel_rfl) (fun _ _ _ h => h) (Or.inl ⟨by rfl, ?hz39⟩) hS ?rz39
              case hz39 => intro w' hSw; go_simp; (try with_reducible rfl)
              (try simp only [List.getElem_toArray]); (try simp only [List.getElem_cons_succ]); (try simp only [List.getElem_cons_zero]); (try simp only [Act.put]); (try simp only [List.setIfInBounds_toArray]); (try simp only [List.set_cons_succ]); (try simp only [List.set_cons_zero])
              refine wpAnyH_ready (rs := [12]) (by kernel_rfl) (by simp) ?_
              refine AllReadyH.cons (o := _) rfl (fun K hK => ?_) AllReadyH.nil
              refine step_store_blk rfl 36 _ _ rfl gn #[.int .i64 (mOf (rlX3 xss x).xQuarrel.xSome 256 pf).xQ, .slice p (mOf (rlX3 xss x).xQuarrel.xSome 256 pf).xViews.length c] rfl rfl Er36 rfl (by kernel_rfl) (by kernel_rfl) ?_
              intro ue Ze Oe
              have Me := Mr36.off Oe (fun y hy hm => by simp at hm; exact nbm (hm ▸ hy))
              have Ne := Nr36.off Oe (by simp; omega) (fun y hy hm => by simp at hm; exact ncs (hm ▸ hy))
              have Ye := Yr36.off Oe (by simp; omega)
              have Pe := Pr36.mix Oe (fun y hy => by simp at hy; right; omega)
              refine hK.out _ _ (HS.out _ (Pr36.mix Oe (fun y hy => by simp at hy; right; omega))) (fun hS => ?_)
              clear hK K
              (try simp only [List.getElem_toArray]); (try simp only [List.getElem_cons_succ]); (try simp only [List.getElem_cons_zero]); (try simp only [Act.put]); (try simp only [List.setIfInBounds_toArray]); (try simp only [List.set_cons_succ]); (try simp only [List.set_cons_zero])
              refine wpAnyH_take (i := 13) (v := ?vz40) rfl (by kernel_rfl) (by kernel_rfl) (by kernel_rfl) (fun _ _ _ h => h) (Or.inl ⟨by rfl, ?hz40⟩) hS ?rz40
              case hz40 => intro w' hSw; go_simp; (try with_reducible rfl)
              (try simp only [List.getElem_toArray]); (try simp only [List.getElem_cons_succ]); (try simp only [List.getElem_cons_zero]); (try simp only [Act.put]); (try simp only [List.setIfInBounds_toArray]); (try simp only [List.set_cons_succ]); (try simp only [List.set_cons_zero])
              refine wpAnyH_done (by kernel_rfl) ?_ _
              clear hS
              go_wp2
              go_meet
              case rel => exact ⟨gn, p, c, bm, cs, rfl, rfl, ⟨Ze, Me, hbm, lgn, ncs, nbm, Ne, hcs, Pe⟩, Ye⟩
          · skip
            rw [if_pos (by rfl)]
            go_simp
            have Br41 := Blk.new ur27 36 #[.int .i64 0, .slice none 0 0]
            have B6_r41 := Br27.alloc (.cells #[.int .i64 0, .slice none 0 0] 36)
            have Yr41 := Yr27.alloc (.cells #[.int .i64 0, .slice none 0 0] 36)
            have Nr41 := Nr27.keep ((Below.refl _ _).alloc (Nat.le_refl _) (.cells #[.int .i64 0, .slice none 0 0] 36))
            have br41 := br27.alloc br27.size (.cells #[.int .i64 0, .slice none 0 0] 36)
            have lgn : w4.heap.size ≤ ur27.heap.size := br27.size
            generalize ur27.alloc (.cells #[.int .i64 0, .slice none 0 0] 36) = ur41 at *
            generalize ur27.heap.size = gn at *
            refine hK.out _ _ (HS.out _ (Off.ofBelow br41)) (fun hS => ?_)
            clear hK K
            (try simp only [List.getElem_toArray]); (try simp only [List.getElem_cons_succ]); (try simp only [List.getElem_cons_zero]); (try simp only [Act.put]); (try simp only [List.setIfInBounds_toArray]); (try simp only [List.set_cons_succ]); (try simp only [List.set_cons_zero])
            refine wpAnyH_ready (rs := [4]) (by kernel_rfl) (by simp) ?_
            refine AllReadyH.cons (o := _) rfl (fun K hK => ?_) AllReadyH.nil
            rw [if_pos (by rfl)]
            go_simp
            have Br42 := Blk.new ur41 36 #[.int .i64 256, .slice pM 4 cM]
            have B6_r42 := B6_r41.alloc (.cells #[.int .i64 256, .slice pM 4 cM] 36)
            have B11_r42 := Br41.alloc (.cells #[.int .i64 256, .slice pM 4 cM] 36)
            have Yr42 := Yr41.alloc (.cells #[.int .i64 256, .slice pM 4 cM] 36)
            have Nr42 := Nr41.keep ((Below.refl _ _).alloc (Nat.le_refl _) (.cells #[.int .i64 256, .slice pM 4 cM] 36))
            have br42 := br41.alloc br41.size (.cells #[.int .i64 256, .slice pM 4 cM] 36)
            have lS4 : w4.heap.size ≤ ur41.heap.size := br41.size
            generalize ur41.alloc (.cells #[.int .i64 256, .slice pM 4 cM] 36) = ur42 at *
            generalize ur41.heap.size = s4 at *
            refine hK.out _ _ (HS.out _ (Off.ofBelow br42)) (fun hS => ?_)
            clear hK K
            (try simp only [List.getElem_toArray]); (try simp only [List.getElem_cons_succ]); (try simp only [List.getElem_cons_zero]); (try simp only [Act.put]); (try simp only [List.setIfInBounds_toArray]); (try simp only [List.set_cons_succ]); (try simp only [List.set_cons_zero])
            refine wpAnyH_ready (rs := [7]) (by kernel_rfl) (by simp) ?_
            refine AllReadyH.cons (o := _) rfl (fun K hK => ?_) AllReadyH.nil
            rw [if_pos (by rfl)]
            go_simp
            go_at_call 64
            refine (KD4 _ _ _ Nr42 (Off.ofBelow br42) lS4 lS6 Br42 B6_r42).mono ?_
            rintro e ur43 ⟨cs, HD, Nr43, hcs0, O⟩
            have zb := br42.size
            have HM : ∃ p c bm, e = .returned (.tuple #[.agg #[.int .i64 (mOf (rlX3 xss x).xQuarrel.xSome 256 pf).xQ, .slice p (mOf (rlX3 xss x).xQuarrel.xSome 256 pf).xViews.length c], .bool (!(rlX3 xss x).xQuarrel.xSome)]) ∧ Mat ur43 (.slice p (mOf (rlX3 xss x).xQuarrel.xSome 256 pf).xViews.length c) (mOf (rlX3 xss x).xQuarrel.xSome 256 pf).xViews bm ∧ (∀ y ∈ bm, ur42.heap.size ≤ y) ∧ ∀ y ∈ bm, y ∉ cs := by
              rcases HD with ⟨hs, rfl⟩ | ⟨hs, z, bm, rfl, hM, hm1, hm2⟩
              · rw [hs]
                exact ⟨none, 0, [], rfl, Mat.nil _, (fun y hy => by cases hy), fun y hy => by cases hy⟩
              · rw [hs]
                obtain ⟨p, c, rfl⟩ := hM.value
                exact ⟨p, c, bm, rfl, hM, hm1, hm2⟩
            obtain ⟨p, c, bm, rfl, Mr43, hbm0, hbm1⟩ := HM
            have Yr43 := Yr42.off O hYn
            have Pr43 : Off (b0 :: cs2) w4 ur43 := (Off.ofBelow br42).trans O
            have hbm : ∀ y ∈ bm, w4.heap.size ≤ y ∧ y ∉ cs := fun y hy => ⟨Nat.le_trans zb (hbm0 y hy), hbm1 y hy⟩
            have hcs : ∀ y ∈ cs, y ∈ cs2 ∨ w4.heap.size ≤ y := fun y hy => by rcases hcs0 y hy with h | h; (exact .inl h); (right; omega)
            have Er43 := B11_r42.off O (nh _ lgn)
            have lnb := B11_r42.lt
            have nbm : gn ∉ bm := fun h => by have := hbm0 _ h; omega
            have ncs : gn ∉ cs := fun h => by rcases hcs0 _ h with h2 | h2; (have := l4s _ h2; omega); omega
            clear O hbm0 hcs0
            dsimp only
            refine hK.out _ _ (HS.out _ Pr43) (fun hS => ?_)
            clear hK K
            (try simp only [List.getElem_toArray]); (try simp only [List.getElem_cons_succ]); (try simp only [List.getElem_cons_zero]); (try simp only [Act.put]); (try simp only [List.setIfInBounds_toArray]); (try simp only [List.set_cons_succ]); (try simp only [List.set_cons_zero])
            refine wpAnyH_take (i := 8) (v := ?vz44) rfl (by kernel_rfl) (by kernel_rfl) (by kernel_rfl) (fun _ _ _ h => h) (Or.inl ⟨by rfl, ?hz44⟩) hS ?rz44
            case hz44 => intro w' hSw; go_simp; (try with_reducible rfl)
            (try simp only [List.getElem_toArray]); (try simp only [List.getElem_cons_succ]); (try simp only [List.getElem_cons_zero]); (try simp only [Act.put]); (try simp only [List.setIfInBounds_toArray]); (try simp only [List.set_cons_succ]); (try simp only [List.set_cons_zero])
            refine wpAnyH_take (i := 9) (v := ?vz45) rfl (by kernel_rfl) (by kernel_rfl) (by kernel_rfl) (fun _ _ _ h => h) (Or.inl ⟨by rfl, ?hz45⟩) hS ?rz45
            case hz45 => intro w' hSw; go_simp; (try with_reducible rfl)
            (try simp only [List.getElem_toArray]); (try simp only [List.getElem_cons_succ]); (try simp only [List.getElem_cons_zero]); (try simp only [Act.put]); (try simp only [List.setIfInBounds_toArray]); (try simp only [List.set_cons_succ]); (try simp only [List.set_cons_zero])
            refine wpAnyH_take (i := 10) (v := ?vz46) rfl (by kernel_rfl) (by kernel_rfl) (by kernel_rfl) (fun _ _ _ h => h) (Or.inl ⟨by rfl, ?hz46⟩) hS ?rz46
            case hz46 => intro w' hSw; go_simp; (try with_reducible rfl)
            (try simp only [List.getElem_toArray]); (try simp only [List.getElem_cons_succ]); (try simp only [List.getElem_cons_zero]); (try simp only [Act.put]); (try simp only [List.setIfInBounds_toArray]); (try simp only [List.set_cons_succ]); (try simp only [List.set_cons_zero])
            refine wpAnyH_ready (rs := [12]) (by kernel_rfl) (by simp) ?_
            refine AllReadyH.cons (o := _) rfl (fun K hK => ?_) AllReadyH.nil
            refine step_store_blk rfl 36 _ _ rfl gn #[.int .i64 (mOf (rlX3 xss x).xQuarrel.xSome 256 pf).xQ, .slice p (mOf (rlX3 xss x).xQuarrel.xSome 256 pf).xViews.length c] rfl rfl Er43 rfl (by kernel_rfl) (by kernel_rfl) ?_
            intro ue Ze Oe
            have Me := Mr43.off Oe (fun y hy hm => by simp at hm; exact nbm (hm ▸ hy))
            have Ne := Nr43.off Oe (by simp; omega) (fun y hy hm => by simp at hm; exact ncs (hm ▸ hy))
            have Ye := Yr43.off Oe (by simp; omega)
            have Pe := Pr43.mix Oe (fun y hy => by simp at hy; right; omega)
            refine hK.out _ _ (HS.out _ (Pr43.mix Oe (fun y hy => by simp at hy; right; omega))) (fun hS => ?_)
            clear hK K
            (try simp only [List.getElem_toArray]); (try simp only [List.getElem_cons_succ]); (try simp only [List.getElem_cons_zero]); (try simp only [Act.put]); (try simp only [List.setIfInBounds_toArray]); (try simp only [List.set_cons_succ]); (try simp only [List.set_cons_zero])
            refine wpAnyH_take (i := 13) (v := ?vz47) rfl (by kernel_rfl) (by kernel_rfl) (by kernel_rfl) (fun _ _ _ h => h) (Or.inl ⟨by rfl, ?hz47⟩) hS ?rz47
            case hz47 => intro w' hSw; go_simp; (try with_reducible rfl)
            (try simp only [List.getElem_toArray]); (try simp only [List.getElem_cons_succ]); (try simp only [List.getElem_cons_zero]); (try simp only [Act.put]); (try simp only [List.setIfInBounds_toArray]); (try simp only [List.set_cons_succ]); (try simp only [List.set_cons_zero])
            refine wpAnyH_done (by kernel_rfl) ?_ _
            clear hS
            go_wp2
            go_meet
            case rel => exact ⟨gn, p, c, bm, cs, rfl, rfl, ⟨Ze, Me, hbm, lgn, ncs, nbm, Ne, hcs, Pe⟩, Ye⟩
        · skip
          rw [if_pos (by rfl)]
          go_simp
          have Br48 := Blk.new ud 36 #[.int .i64 0, .slice none 0 0]
          have Yr48 := Yd.alloc (.cells #[.int .i64 0, .slice none 0 0] 36)
          have Nr48 := Nd.keep ((Below.refl _ _).alloc (Nat.le_refl _) (.cells #[.int .i64 0, .slice none 0 0] 36))
          have br48 := bd.alloc bd.size (.cells #[.int .i64 0, .slice none 0 0] 36)
          have lgn : w4.heap.size ≤ ud.heap.size := bd.size
          generalize ud.alloc (.cells #[.int .i64 0, .slice none 0 0] 36) = ur48 at *
          generalize ud.heap.size = gn at *
          refine hK.out _ _ (HS.out _ (Off.ofBelow br48)) (fun hS => ?_)
          clear hK K
          (try simp only [List.getElem_toArray]); (try simp only [List.getElem_cons_succ]); (try simp only [List.getElem_cons_zero]); (try simp only [Act.put]); (try simp only [List.setIfInBounds_toArray]); (try simp only [List.set_cons_succ]); (try simp only [List.set_cons_zero])
          refine wpAnyH_ready (rs := [4, 6]) (by kernel_rfl) (by simp) ?_
          refine AllReadyH.cons (o := _) rfl (fun K hK => ?_) (AllReadyH.cons (o := _) rfl (fun K hK => ?_) AllReadyH.nil)
          · skip
            rw [if_pos (by rfl)]
            go_simp
            have Br49 := Blk.new ur48 36 #[.int .i64 256, .slice pM 4 cM]
            have B11_r49 := Br48.alloc (.cells #[.int .i64 256, .slice pM 4 cM] 36)
            have Yr49 := Yr48.alloc (.cells #[.int .i64 256, .slice pM 4 cM] 36)
            have Nr49 := Nr48.keep ((Below.refl _ _).alloc (Nat.le_refl _) (.cells #[.int .i64 256, .slice pM 4 cM] 36))
            have br49 := br48.alloc br48.size (.cells #[.int .i64 256, .slice pM 4 cM] 36)
            have lS4 : w4.heap.size ≤ ur48.heap.size := br48.size
            generalize ur48.alloc (.cells #[.int .i64 256, .slice pM 4 cM] 36) = ur49 at *
            generalize ur48.heap.size = s4 at *
            refine hK.out _ _ (HS.out _ (Off.ofBelow br49)) (fun hS => ?_)
            clear hK K
            (try simp only [List.getElem_toArray]); (try simp only [List.getElem_cons_succ]); (try simp only [List.getElem_cons_zero]); (try simp only [Act.put]); (try simp only [List.setIfInBounds_toArray]); (try simp only [List.set_cons_succ]); (try simp only [List.set_cons_zero])
            refine wpAnyH_ready (rs := [6]) (by kernel_rfl) (by simp) ?_
            refine AllReadyH.cons (o := _) rfl (fun K hK => ?_) AllReadyH.nil
            rw [if_pos (by rfl)]
            go_simp
            have Br50 := Blk.new ur49 36 #[.int .i64 256, .slice p2 4 c2]
            have B4_r50 := Br49.alloc (.cells #[.int .i64 256, .slice p2 4 c2] 36)
            have B11_r50 := B11_r49.alloc (.cells #[.int .i64 256, .slice p2 4 c2] 36)
            have Yr50 := Yr49.alloc (.cells #[.int .i64 256, .slice p2 4 c2] 36)
            have Nr50 := Nr49.keep ((Below.refl _ _).alloc (Nat.le_refl _) (.cells #[.int .i64 256, .slice p2 4 c2] 36))
            have br50 := br49.alloc br49.size (.cells #[.int .i64 256, .slice p2 4 c2] 36)
            have lS6 : w4.heap.size ≤ ur49.heap.size := br49.size
            generalize ur49.alloc (.cells #[.int .i64 256, .slice p2 4 c2] 36) = ur50 at *
            generalize ur49.heap.size = s6 at *
            refine hK.out _ _ (HS.out _ (Off.ofBelow br50)) (fun hS => ?_)
            clear hK K
            (try simp only [List.getElem_toArray]); (try simp only [List.getElem_cons_succ]); (try simp only [List.getElem_cons_zero]); (try simp only [Act.put]); (try simp only [List.setIfInBounds_toArray]); (try simp only [List.set_cons_succ]); (try simp only [List.set_cons_zero])
            refine wpAnyH_ready (rs := [7]) (by kernel_rfl) (by simp) ?_
            refine AllReadyH.cons (o := _) rfl (fun K hK => ?_) AllReadyH.nil
            rw [if_pos (by rfl)]
            go_simp
            go_at_call 64
            refine (KD4 _ _ _ Nr50 (Off.ofBelow br50) lS4 lS6 B4_r50 Br50).mono ?_
            rintro e ur51 ⟨cs, HD, Nr51, hcs0, O⟩
            have zb := br50.size
            have HM : ∃ p c bm, e = .returned (.tuple #[.agg #[.int .i64 (mOf (rlX3 xss x).xQuarrel.xSome 256 pf).xQ, .slice p (mOf (rlX3 xss x).xQuarrel.xSome 256 pf).xViews.length c], .bool (!(rlX3 xss x).xQuarrel.xSome)]) ∧ Mat ur51 (.slice p (mOf (rlX3 xss x).xQuarrel.xSome 256 pf).xViews.length c) (mOf (rlX3 xss x).xQuarrel.xSome 256 pf).xViews bm ∧ (∀ y ∈ bm, ur50.heap.size ≤ y) ∧ ∀ y ∈ bm, y ∉ cs := by
              rcases HD with ⟨hs, rfl⟩ | ⟨hs, z, bm, rfl, hM, hm1, hm2⟩
              · rw [hs]
                exact ⟨none, 0, [], rfl, Mat.nil _, (fun y hy => by cases hy), fun y hy => by cases hy⟩
              · rw [hs]
                obtain ⟨p, c, rfl⟩ := hM.value
                exact ⟨p, c, bm, rfl, hM, hm1, hm2⟩
            obtain ⟨p, c, bm, rfl, Mr51, hbm0, hbm1⟩ := HM
            have Yr51 := Yr50.off O hYn
            have Pr51 : Off (b0 :: cs2) w4 ur51 := (Off.ofBelow br50).trans O
            have hbm : ∀ y ∈ bm, w4.heap.size ≤ y ∧ y ∉ cs := fun y hy => ⟨Nat.le_trans zb (hbm0 y hy), hbm1 y hy⟩
            have hcs : ∀ y ∈ cs, y ∈ cs2 ∨ w4.heap.size ≤ y := fun y hy => by rcases hcs0 y hy with h | h; (exact .inl h); (right; omega)
            have Er51 := B11_r50.off O (nh _ lgn)
            have lnb := B11_r50.lt
            have nbm : gn ∉ bm := fun h => by have := hbm0 _ h; omega
            have ncs : gn ∉ cs := fun h => by rcases hcs0 _ h with h2 | h2; (have := l4s _ h2; omega); omega
            clear O hbm0 hcs0
            dsimp only
            refine hK.out _ _ (HS.out _ Pr51) (fun hS => ?_)
            clear hK K
            (try simp only [List.getElem_toArray]); (try simp only [List.getElem_cons_succ]); (try simp only [List.getElem_cons_zero]); (try simp only [Act.put]); (try simp only [List.setIfInBounds_toArray]); (try simp only [List.set_cons_succ]); (try simp only [List.set_cons_zero])
            refine wpAnyH_take (i := 8) (v := ?vz52) rfl (by kernel_rfl) (by kernel_rfl) (by kernel_rfl) (fun _ _ _ h => h) (Or.inl ⟨by rfl, ?hz52⟩) hS ?rz52
            case hz52 => intro w' hSw; go_simp; (try with_reducible rfl)
            (try simp only [List.getElem_toArray]); (try simp only [List.getElem_cons_succ]); (try simp only [List.getElem_cons_zero]); (try simp only [Act.put]); (try simp only [List.setIfInBounds_toArray]); (try simp only [List.set_cons_succ]); (try simp only [List.set_cons_zero])
            refine wpAnyH_take (i := 9) (v := ?vz53) rfl (by kernel_rfl) (by kernel_rfl) (by kernel_rfl) (fun _ _ _ h => h) (Or.inl ⟨by rfl, ?hz53⟩) hS ?rz53
            case hz53 => intro w' hSw; go_simp; (try with_reducible rfl)
            (try simp only [List.getElem_toArray]); (try simp only [List.getElem_cons_succ]); (try simp only [List.getElem_cons_zero]); (try simp only [Act.put]); (try simp only [List.setIfInBounds_toArray]); (try simp only [List.set_cons_succ]); (try simp only [List.set_cons_zero])
            refine wpAnyH_take (i := 10) (v := ?vz54) rfl (by kernel_rfl) (by kernel_rfl) (by kernel_rfl) (fun _ _ _ h => h) (Or.inl ⟨by rfl, ?hz54⟩) hS ?rz54
            case hz54 => intro w' hSw; go_simp; (try with_reducible rfl)
            (try simp only [List.getElem_toArray]); (try simp only [List.getElem_cons_succ]); (try simp only [List.getElem_cons_zero]); (try simp only [Act.put]); (try simp only [List.setIfInBounds_toArray]); (try simp only [List.set_cons_succ]); (try simp only [List.set_cons_zero])
            refine wpAnyH_ready (rs := [12]) (by kernel_rfl) (by simp) ?_
            refine AllReadyH.cons (o := _) rfl (fun K hK => ?_) AllReadyH.nil
            refine step_store_blk rfl 36 _ _ rfl gn #[.int .i64 (mOf (rlX3 xss x).xQuarrel.xSome 256 pf).xQ, .slice p (mOf (rlX3 xss x).xQuarrel.xSome 256 pf).xViews.length c] rfl rfl Er51 rfl (by kernel_rfl) (by kernel_rfl) ?_
            intro ue Ze Oe
            have Me := Mr51.off Oe (fun y hy hm => by simp at hm; exact nbm (hm ▸ hy))
            have Ne := Nr51.off Oe (by simp; omega) (fun y hy hm => by simp at hm; exact ncs (hm ▸ hy))
            have Ye := Yr51.off Oe (by simp; omega)
            have Pe := Pr51.mix Oe (fun y hy => by simp at hy; right; omega)
            refine hK.out _ _ (HS.out _ (Pr51.mix Oe (fun y hy => by simp at hy; right; omega))) (fun hS => ?_)
            clear hK K
            (try simp only [List.getElem_toArray]); (try simp only [List.getElem_cons_succ]); (try simp only [List.getElem_cons_zero]); (try simp only [Act.put]); (try simp only [List.setIfInBounds_toArray]); (try simp only [List.set_cons_succ]); (try simp only [List.set_cons_zero])
            refine wpAnyH_take (i := 13) (v := ?vz55) rfl (by kernel_rfl) (by kernel_rfl) (by kernel_rfl) (fun _ _ _ h => h) (Or.inl ⟨by rfl, ?hz55⟩) hS ?rz55
            case hz55 => intro w' hSw; go_simp; (try with_reducible rfl)
            (try simp only [List.getElem_toArray]); (try simp only [List.getElem_cons_succ]); (try simp only [List.getElem_cons_zero]); (try simp only [Act.put]); (try simp only [List.setIfInBounds_toArray]); (try simp only [List.set_cons_succ]); (try simp only [List.set_cons_zero])
            refine wpAnyH_done (by kernel_rfl) ?_ _
            clear hS
            go_wp2
            go_meet
            case rel => exact ⟨gn, p, c, bm, cs, rfl, rfl, ⟨Ze, Me, hbm, lgn, ncs, nbm, Ne, hcs, Pe⟩, Ye⟩
          · skip
            rw [if_pos (by rfl)]
            go_simp
            have Br56 := Blk.new ur48 36 #[.int .i64 256, .slice p2 4 c2]
            have B11_r56 := Br48.alloc (.cells #[.int .i64 256, .slice p2 4 c2] 36)
            have Yr56 := Yr48.alloc (.cells #[.int .i64 256, .slice p2 4 c2] 36)
            have Nr56 := Nr48.keep ((Below.refl _ _).alloc (Nat.le_refl _) (.cells #[.int .i64 256, .slice p2 4 c2] 36))
            have br56 := br48.alloc br48.size (.cells #[.int .i64 256, .slice p2 4 c2] 36)
            have lS6 : w4.heap.size ≤ ur48.heap.size := br48.size
            generalize ur48.alloc (.cells #[.int .i64 256, .slice p2 4 c2] 36) = ur56 at *
            generalize ur48.heap.size = s6 at *
            refine hK.out _ _ (HS.out _ (Off.ofBelow br56)) (fun hS => ?_)
            clear hK K
            (try simp only [List.getElem_toArray]); (try simp only [List.getElem_cons_succ]); (try simp only [List.getElem_cons_zero]); (try simp only [Act.put]); (try simp only [List.setIfInBounds_toArray]); (try simp only [List.set_cons_succ]); (try simp only [List.set_cons_zero])
            refine wpAnyH_ready (rs := [4]) (by kernel_rfl) (by simp) ?_
            refine AllReadyH.cons (o := _) rfl (fun K hK => ?_) AllReadyH.nil
            rw [if_pos (by rfl)]
            go_simp
            have Br57 := Blk.new ur56 36 #[.int .i64 256, .slice pM 4 cM]
            have B6_r57 := Br56.alloc (.cells #[.int .i64 256, .slice pM 4 cM] 36)
            have B11_r57 := B11_r56.alloc (.cells #[.int .i64 256, .slice pM 4 cM] 36)
            have Yr57 := Yr56.alloc (.cells #[.int .i64 256, .slice pM 4 cM] 36)
            have Nr57 := Nr56.keep ((Below.refl _ _).alloc (Nat.le_refl _) (.cells #[.int .i64 256, .slice pM 4 cM] 36))
            have br57 := br56.alloc br56.size (.cells #[.int .i64 256, .slice pM 4 cM] 36)
            have lS4 : w4.heap.size ≤ ur56.heap.size := br56.size
            generalize ur56.alloc (.cells #[.int .i64 256, .slice pM 4 cM] 36) = ur57 at *
            generalize ur56.heap.size = s4 at *
            refine hK.out _ _ (HS.out _ (Off.ofBelow br57)) (fun hS => ?_)
            clear hK K
            (try simp only [List.getElem_toArray]); (try simp only [List.getElem_cons_succ]); (try simp only [List.getElem_cons_zero]); (try simp only [Act.put]); (try simp only [List.setIfInBounds_toArray]); (try simp only [List.set_cons_succ]); (try simp only [List.set_cons_zero])
            refine wpAnyH_ready (rs := [7]) (by kernel_rfl) (by simp) ?_
            refine AllReadyH.cons (o := _) rfl (fun K hK => ?_) AllReadyH.nil
            rw [if_pos (by rfl)]
            go_simp
            go_at_call 64
            refine (KD4 _ _ _ Nr57 (Off.ofBelow br57) lS4 lS6 Br57 B6_r57).mono ?_
            rintro e ur58 ⟨cs, HD, Nr58, hcs0, O⟩
            have zb := br57.size
            have HM : ∃ p c bm, e = .returned (.tuple #[.agg #[.int .i64 (mOf (rlX3 xss x).xQuarrel.xSome 256 pf).xQ, .slice p (mOf (rlX3 xss x).xQuarrel.xSome 256 pf).xViews.length c], .bool (!(rlX3 xss x).xQuarrel.xSome)]) ∧ Mat ur58 (.slice p (mOf (rlX3 xss x).xQuarrel.xSome 256 pf).xViews.length c) (mOf (rlX3 xss x).xQuarrel.xSome 256 pf).xViews bm ∧ (∀ y ∈ bm, ur57.heap.size ≤ y) ∧ ∀ y ∈ bm, y ∉ cs := by
              rcases HD with ⟨hs, rfl⟩ | ⟨hs, z, bm, rfl, hM, hm1, hm2⟩
              · rw [hs]
                exact ⟨none, 0, [], rfl, Mat.nil _, (fun y hy => by cases hy), fun y hy => by cases hy⟩
              · rw [hs]
                obtain ⟨p, c, rfl⟩ := hM.value
                exact ⟨p, c, bm, rfl, hM, hm1, hm2⟩
            obtain ⟨p, c, bm, rfl, Mr58, hbm0, hbm1⟩ := HM
            have Yr58 := Yr57.off O hYn
            have Pr58 : Off (b0 :: cs2) w4 ur58 := (Off.ofBelow br57).trans O
            have hbm : ∀ y ∈ bm, w4.heap.size ≤ y ∧ y ∉ cs := fun y hy => ⟨Nat.le_trans zb (hbm0 y hy), hbm1 y hy⟩
            have hcs : ∀ y ∈ cs, y ∈ cs2 ∨ w4.heap.size ≤ y := fun y hy => by rcases hcs0 y hy with h | h; (exact .inl h); (right; omega)
            have Er58 := B11_r57.off O (nh _ lgn)
            have lnb := B11_r57.lt
            have nbm : gn ∉ bm := fun h => by have := hbm0 _ h; omega
            have ncs : gn ∉ cs := fun h => by rcases hcs0 _ h with h2 | h2; (have := l4s _ h2; omega); omega
            clear O hbm0 hcs0
            dsimp only
            refine hK.out _ _ (HS.out _ Pr58) (fun hS => ?_)
            clear hK K
            (try simp only [List.getElem_toArray]); (try simp only [List.getElem_cons_succ]); (try simp only [List.getElem_cons_zero]); (try simp only [Act.put]); (try simp only [List.setIfInBounds_toArray]); (try simp only [List.set_cons_succ]); (try simp only [List.set_cons_zero])
            refine wpAnyH_take (i := 8) (v := ?vz59) rfl (by kernel_rfl) (by kernel_rfl) (by kernel_rfl) (fun _ _ _ h => h) (Or.inl ⟨by rfl, ?hz59⟩) hS ?rz59
            case hz59 => intro w' hSw; go_simp; (try with_reducible rfl)
            (try simp only [List.getElem_toArray]); (try simp only [List.getElem_cons_succ]); (try simp only [List.getElem_cons_zero]); (try simp only [Act.put]); (try simp only [List.setIfInBounds_toArray]); (try simp only [List.set_cons_succ]); (try simp only [List.set_cons_zero])
            refine wpAnyH_take (i := 9) (v := ?vz60) rfl (by kernel_rfl) (by kernel_rfl) (by kernel_rfl) (fun _ _ _ h => h) (Or.inl ⟨by rfl, ?hz60⟩) hS ?rz60
            case hz60 => intro w' hSw; go_simp; (try with_reducible rfl)
            (try simp only [List.getElem_toArray]); (try simp only [List.getElem_cons_succ]); (try simp only [List.getElem_cons_zero]); (try simp only [Act.put]); (try simp only [List.setIfInBounds_toArray]); (try simp only [List.set_cons_succ]); (try simp only [List.set_cons_zero])
            refine wpAnyH_take (i := 10) (v := ?vz61) rfl (by kernel_rfl) (by kernel_rfl) (by kernel_rfl) (fun _ _ _ h => h) (Or.inl ⟨by rfl, ?hz61⟩) hS ?rz61
            case hz61 => intro w' hSw; go_simp; (try with_reducible rfl)
            (try simp only [List.getElem_toArray]); (try simp only [List.getElem_cons_succ]); (try simp only [List.getElem_cons_zero]); (try simp only [Act.put]); (try simp only [List.setIfInBounds_toArray]); (try simp only [List.set_cons_succ]); (try simp only [List.set_cons_zero])
            refine wpAnyH_ready (rs := [12]) (by kernel_rfl) (by simp) ?_
            refine AllReadyH.cons (o := _) rfl (fun K hK => ?_) AllReadyH.nil
            refine step_store_blk rfl 36 _ _ rfl gn #[.int .i64 (mOf (rlX3 xss x).xQuarrel.xSome 256 pf).xQ, .slice p (mOf (rlX3 xss x).xQuarrel.xSome 256 pf).xViews.length c] rfl rfl Er58 rfl (by kernel_rfl) (by kernel_rfl) ?_
            intro ue Ze Oe
            have Me := Mr58.off Oe (fun y hy hm => by simp at hm; exact nbm (hm ▸ hy))
            have Ne := Nr58.off Oe (by simp; omega) (fun y hy hm => by simp at hm; exact ncs (hm ▸ hy))
            have Ye := Yr58.off Oe (by simp; omega)
            have Pe := Pr58.mix Oe (fun y hy => by simp at hy; right; omega)
            refine hK.out _ _ (HS.out _ (Pr58.mix Oe (fun y hy => by simp at hy; right; omega))) (fun hS => ?_)
            clear hK K
            (try simp only [List.getElem_toArray]); (try simp only [List.getElem_cons_succ]); (try simp only [List.getElem_cons_zero]); (try simp only [Act.put]); (try simp only [List.setIfInBounds_toArray]); (try simp only [List.set_cons_succ]); (try simp only [List.set_cons_zero])
            refine wpAnyH_take (i := 13) (v := ?vz62) rfl (by kernel_rfl) (by kernel_rfl) (by kernel_rfl) (fun _ _ _ h => h) (Or.inl ⟨by rfl, ?hz62⟩) hS ?rz62
            case hz62 => intro w' hSw; go_simp; (try with_reducible rfl)
            (try simp only [List.getElem_toArray]); (try simp only [List.getElem_cons_succ]); (try simp only [List.getElem_cons_zero]); (try simp only [Act.put]); (try simp only [List.setIfInBounds_toArray]); (try simp only [List.set_cons_succ]); (try simp only [List.set_cons_zero])
            refine wpAnyH_done (by kernel_rfl) ?_ _
            clear hS
            go_wp2
            go_meet
            case rel => exact ⟨gn, p, c, bm, cs, rfl, rfl, ⟨Ze, Me, hbm, lgn, ncs, nbm, Ne, hcs, Pe⟩, Ye⟩
      case rest =>
        obtain ⟨g5, p5, c5, bm5, cs5, rfl, rfl, ⟨Z5, M5, hm5, lg5, ng5, nb5, N5, hc5, P5⟩, Y5⟩ := hcut
        obtain ⟨w5, eu⟩ : ∃ x : World, x = wc := ⟨_, rfl⟩
        subst eu
        have PW5 : Off (b0 :: bs) w w5 := P4.mix P5 (fun y hy => by rcases List.mem_cons.1 hy with h | h; (left; rw [h]; simp); (rcases hcw2 y h with h2 | h2; (left; simp [h2]); (right; omega)))
        have hcw5 : ∀ y ∈ cs5, y ∈ bs ∨ w.heap.size + 1 ≤ y := fun y hy => by rcases hc5 y hy with h | h; (exact hcw2 y h); (right; omega)
        have lY5 := Y5.lt
        cases hs3 : (rlX3 xss x).xQuarrel.xSome
        · rw [hs3] at Z5 M5
          rw [mOf_on] at Z5 M5
          change Blk w5 g5 36 #[.int .i64 256, .slice p5 4 c5] at Z5
          change Mat w5 (.slice p5 4 c5) (unflat pf) bm5 at M5
          have HXX : Hid (rlX xss x = rlX3 xss x ∧ (rlX3 xss x).xQuarrel.xSome = false) := ⟨e3, hs3⟩
          have FA5 := HBM.out w5 P5
          have K6 := spec_l3Mix bM g5 256 256 (-1) xss (unflat pf) w5 ⟨_, FA5.1, FA5.2, HSQ.out.1.1, HSQ.out.1.2, HSQ.out.2⟩ ⟨_, Z5, M5.reads, (unflat_sq pf).1, (unflat_sq pf).2, fun i j => by have := unflat_bdS HOP.out i j; omega⟩ (.inr rfl) (by decide) (by decide)
          rw [HEF.out] at K6
          have l5s := N5.lts
          clear KD4 e3 FA5
          go_wp2_with fail
          refine K6.mono ?_
          rintro e w6 ⟨u, b6, rfl, ⟨p6, c6, rfl, M6⟩, hb6, hw6⟩
          change Mat w6 (.slice p6 4 c6) (unflat (rlF xss x)) b6 at M6
          have huf : (unflat (rlF xss x)).length = 4 := rfl
          simp only [huf]
          have N6 := N5.keep hw6
          have Y6 := Y5.keep hw6
          have P6 := PW5.trans (Off.ofBelow hw6)
          have zP5 := PW5.size
          clear K6 N5 Y5 PW5 Z5 M5 hw6
          go_wp2_with (refine wpList_store_blk rfl 36 _ _ rfl w.heap.size #[.int .i64 256, .slice p6 4 c6] rfl rfl Y6 rfl (by kernel_rfl) (by kernel_rfl) ?_; intro w20 Y20 O20)
          have ya := Y20.at.1
          try go_wp2
          try rw [Exit.noGoto_ret]
          exact bodyPost_ret (v := .tuple #[.agg #[.int .i64 256, .slice p6 4 c6], .bool true]) (by simp [results, Tryz.results33, go_sem, ya]) rfl (by rw [HXX.out.1, HXX.out.2, mOf_on]; exact ⟨cs5, p6, c6, b6, rfl, M6.off O20 (fun y hy hm => by have := hb6 y hy; simp at hm; omega), fun y hy => ⟨by have := hb6 y hy; omega, fun hm => by have := hb6 y hy; have := l5s y hm; omega⟩, N6.off O20 (by simp; omega) (fun y hy hm => by simp at hm; rcases hcw5 y hy with h | h; (have := lNs _ h; omega); omega), fun y hy => by rcases hcw5 y hy with h | h; (exact .inl h); (right; omega), P6.mix O20 (fun y hy => by simp at hy; right; omega)⟩)
        · have HXX : Hid (rlX xss x = rlX3 xss x ∧ (rlX3 xss x).xQuarrel.xSome = true) := ⟨e3, hs3⟩
          clear KD4 e3 Z5 M5
          go_wp2_with (refine wpList_store_blk rfl 36 _ _ rfl w.heap.size #[.int .i64 0, .slice none 0 0] rfl rfl Y5 rfl (by kernel_rfl) (by kernel_rfl) ?_; intro w20 Y20 O20)
          have ya := Y20.at.1
          try go_wp2
          try rw [Exit.noGoto_ret]
          exact bodyPost_ret (v := .tuple #[.agg #[.int .i64 0, .slice none 0 0], .bool false]) (by simp [results, Tryz.results33, go_sem, ya]) rfl (by rw [HXX.out.1, HXX.out.2, mOf_stop]; exact ⟨cs5, none, 0, [], rfl, Mat.nil _, (fun y hy => by cases hy), N5.off O20 (by simp; omega) (fun y hy hm => by simp at hm; rcases hcw5 y hy with h | h; (have := lNs _ h; omega); omega), fun y hy => by rcases hcw5 y hy with h | h; (exact .inl h); (right; omega), PW5.mix O20 (fun y hy => by simp at hy; right; omega)⟩)
    · have HXX : Hid (rlX xss x = rlX2 xss x ∧ (rlX2 xss x).xQuarrel.xSome = true) := ⟨HX2.out hs1 hs2, hs2⟩
      clear HMM HX2 HX3 KD M4 A4 HFB
      have lY4 := Y4.lt
      go_wp2_with (refine wpList_store_blk rfl 36 _ _ rfl w.heap.size #[.int .i64 0, .slice none 0 0] rfl rfl Y4 rfl (by kernel_rfl) (by kernel_rfl) ?_; intro w20 Y20 O20)
      have ya := Y20.at.1
      try go_wp2
      try rw [Exit.noGoto_ret]
      exact bodyPost_ret (v := .tuple #[.agg #[.int .i64 0, .slice none 0 0], .bool false]) (by simp [results, Tryz.results33, go_sem, ya]) rfl (by rw [HXX.out.1, HXX.out.2, mOf_stop]; exact ⟨cs2, none, 0, [], rfl, Mat.nil _, (fun y hy => by cases hy), N4.off O20 (by simp; omega) (fun y hy hm => by simp at hm; rcases hcw2 y hy with h | h; (have := lNs _ h; omega); omega), fun y hy => by rcases hcw2 y hy with h | h; (exact .inl h); (right; omega), P4.mix O20 (fun y hy => by simp at hy; right; omega)⟩)
  · have HXX : Hid (rlX xss x = sgX xss x ∧ (sgX xss x).xQuarrel.xSome = true) := ⟨HX1.out hs1, hs1⟩
    clear HMM HX1 HX2 HX3 KI KD M2 S2 HFB
    have lY2 := Y2.lt
    go_wp2_with (refine wpList_store_blk rfl 36 _ _ rfl w.heap.size #[.int .i64 0, .slice none 0 0] rfl rfl Y2 rfl (by kernel_rfl) (by kernel_rfl) ?_; intro w20 Y20 O20)
    have ya := Y20.at.1
    try go_wp2
    try rw [Exit.noGoto_ret]
    exact bodyPost_ret (v := .tuple #[.agg #[.int .i64 0, .slice none 0 0], .bool false]) (by simp [results, Tryz.results33, go_sem, ya]) rfl (by rw [HXX.out.1, HXX.out.2, mOf_stop]; exact ⟨cs1, none, 0, [], rfl, Mat.nil _, (fun y hy => by cases hy), N2.off O20 (by simp; omega) (fun y hy hm => by simp at hm; rcases hcw1 y hy with h | h; (have := lNs _ h; omega); omega), fun y hy => by rcases hcw1 y hy with h | h; (exact .inl h); (right; omega), P2.mix O20 (fun y hy => by simp at hy; right; omega)⟩)
end Go.Proofs.YtepobckhfodngaoGreat
