/-
  Bits that are added, in the model: l8Add.
-/
import Derived.Test.YtepobckhfodngaoGreatAdM
import Derived.Test.YtepobckhfodngaoGreatMirU
import Derived.Deep.Cut
namespace Go.Proofs.YtepobckhfodngaoGreat
open Go.ChangeShapes Go.WideShapes Go.ChangeAt Go.RowKit
set_option linter.unusedVariables false
theorem mix_add (q : Int) (fs gs : List Int) : mixRows q (unflat fs) (unflat gs) 1 = unflat (addF q fs gs) := by
  rw [mixRows_add]
  unfold addF
  rw [sh_flat (opRows_sq _ _ _ _)]
theorem MirAt.four {W : World} {g y : Nat} {q : Int} {v : Value} {fs : List Int} (h : MirAt W g y q v (unflat fs)) (ok : Ok16 2 fs) : FourAt W g y q (unflat fs) :=
  ⟨v, h.1.1, h.1.2.1, h.1.2.2, h.2, (unflat_sq fs).1, (unflat_sq fs).2, fun i j => by have := unflat_bdS ok i j; omega⟩
theorem MirAt.box {W : World} {g : Nat} {q : Int} {p : Option Addr} {c : Nat} {fs : List Int} {bm : List Nat} (h : Blk W g 36 #[.int .i64 q, .slice p 4 c]) (M : Mat W (.slice p 4 c) (unflat fs) bm) : MirAt W g 0 q (.slice p 4 c) (unflat fs) := ⟨⟨h.lt, h.at.1 0, h.at.1 1⟩, M.reads⟩
theorem spec_l3Mix_add (a ya b yb : Nat) (va vb : Value) (fs gs : List Int) (w : World) (ha : MirAt w a ya 2 va (unflat fs)) (hb : MirAt w b yb 2 vb (unflat gs)) (hf : Ok16 2 fs) (hg : Ok16 2 gs) :
    Calls Tryz.prog 65 #[.pointer (some ⟨a, ya, none⟩), .pointer (some ⟨b, yb, none⟩), .int .i64 1] w fun e w' => ∃ p c bm, e = .returned (.agg #[.int .i64 2, .slice p 4 c]) ∧ Mat w' (.slice p 4 c) (unflat (addF 2 fs gs)) bm ∧ (∀ y ∈ bm, w.heap.size ≤ y) ∧ Below w.heap.size w w' := by
  refine (spec_l3Mix_at a ya b yb 2 2 1 (unflat fs) (unflat gs) w (ha.four hf) (hb.four hg) (.inl rfl) (by decide) (by decide)).mono ?_
  rintro e w1 ⟨u, bm, rfl, ⟨p, c, rfl, hM⟩, h1, h2⟩
  refine ⟨p, c, bm, rfl, ?_, h1, h2⟩
  have := hM
  rw [mix_add] at this
  exact this
theorem RowOk_l2 {fs gs : List Int} (hf : Ok16 2 fs) (hg : Ok16 2 gs) (ho : Own0 fs) : RowOk 2 1 [⟨2, unflat fs⟩] [⟨2, unflat gs⟩] :=
  ⟨rfl, rfl, .inl rfl, ⟨Nat.le_refl _, by omega⟩, fun t ht => by obtain rfl : t = 0 := (by omega); exact unflat_sq fs, fun t ht => by obtain rfl : t = 0 := (by omega); exact unflat_sq gs, BdT_one hf, BdT_one hg, ho.T⟩
/-- where the sum stands ahead of place k -/
def AdIn (w wr : World) (A B : Nat → List Int) (x : MNet) (b0 : Nat) (bs : List Nat) (gC k g cap : Nat) (us : List Value) (bi : List (List Nat)) (bc cs : List Nat) (pc : Option Addr) (cc : Nat) : Prop :=
  LsO w.heap.size wr (fun k => ⟨2, unflat (adS A B x k)⟩) k g cap us bi ∧ Blk wr gC 36 #[.int .i64 2, .slice pc 4 cc] ∧ Mat wr (.slice pc 4 cc) (unflat (adCa A B x k)) bc ∧ NetIn wr b0 (adNt A B x k) cs ∧ (∀ y ∈ cs, y ∈ bs ∨ w.heap.size ≤ y) ∧ Off (b0 :: bs) w wr ∧ (∀ y, y = gC ∨ y ∈ bc ∨ y ∈ g :: bi.flatten → w.heap.size ≤ y ∧ y ∉ cs) ∧ gC ∉ bc ∧ gC ∉ g :: bi.flatten ∧ g ∉ bc ∧ ∀ i, i ≤ k → (adNt A B x i).xQuarrel.xSome = false
theorem Tryz.infoMa : (Tryz.prog.info? 36).map (fun i => (i.zero, i.size, i.bytes)) = some (some (.agg #[.int .i64 0, .slice none 0 0]), 2, 32) := by kernel_rfl
set_option maxHeartbeats 16000000 in
set_option maxRecDepth 100000 in
theorem spec_l8Add (b0 gA cA gB cB : Nat) (x : MNet) (bs : List Nat) (m : Nat) (A B : Nat → List Int) (w : World) (N : NetIn w b0 x bs) (hx : NetB m x) (hm : m ≤ 199800) (hq0 : x.xQuarrel.xSome = false) (hA : ∀ k, k < 8 → Ok16 2 (A k) ∧ Own0 (A k)) (hB : ∀ k, k < 8 → Ok16 2 (B k))
    (FA : ∀ k, k < 8 → ∃ v, ∀ W, Off (b0 :: bs) w W → MirAt W gA (k * 2) 2 v (unflat (A k))) (FB : ∀ k, k < 8 → ∃ v, ∀ W, Off (b0 :: bs) w W → MirAt W gB (k * 2) 2 v (unflat (B k))) :
    Calls Tryz.prog 84 #[.pointer (some ⟨b0, 0, none⟩), .slice (some ⟨gA, 0, none⟩) 8 cA, .slice (some ⟨gB, 0, none⟩) 8 cB] w fun e w' => ∃ v cs, e = .returned (.tuple #[v, .bool (!(adR A B x).xQuarrel.xSome)]) ∧ NetIn w' b0 (adR A B x) cs ∧ (∀ y ∈ cs, y ∈ bs ∨ w.heap.size ≤ y) ∧ Off (b0 :: bs) w w' ∧ ((adR A B x).xQuarrel.xSome = false → ∃ g cap us bi, v = .slice (some ⟨g, 0, none⟩) 8 cap ∧ LsO w.heap.size w' (fun k => ⟨2, unflat (adS A B x k)⟩) 8 g cap us bi ∧ ∀ y ∈ g :: bi.flatten, y ∉ cs) := by
  obtain ⟨iM, hiM, hzM0, hzM1, hzM2⟩ := info_parts Tryz.infoMa
  have HFA : Hid (∀ k, k < 8 → ∃ v, ∀ W, Off (b0 :: bs) w W → MirAt W gA (k * 2) 2 v (unflat (A k))) := FA
  have HFB : Hid (∀ k, k < 8 → ∃ v, ∀ W, Off (b0 :: bs) w W → MirAt W gB (k * 2) 2 v (unflat (B k))) := FB
  have HOK : Hid (∀ k, k ≤ 7 → Ok16 2 (adCa A B x k) ∧ Own0 (adCa A B x k) ∧ NetB (m + 12 * k) (adNt A B x k)) := adSt_ok hA hB hx
  have HAk : Hid (∀ k, k < 8 → Ok16 2 (A k) ∧ Own0 (A k)) := hA
  have HBk : Hid (∀ k, k < 8 → Ok16 2 (B k)) := hB
  have HRA : Hid (∀ j, j ≤ 7 → (∀ i, i < j → (adNt A B x i).xQuarrel.xSome = false) → ((adNt A B x j).xQuarrel.xSome = true ∨ j = 7) → adR A B x = adNt A B x j) := fun j h2 h3 h4 => adR_at h2 h3 h4
  clear FA FB hA hB hx
  have lN := N.lt
  have lNs := N.lts
  have B0 : Below w.heap.size w (w.alloc (.cells #[] 36)) := (by repeat (first | exact Below.refl _ _ | refine Below.drew ?_ | refine below_drewN ?_ _ | refine Below.setCell ?_ (by first | omega | (simp; done) | (simp; omega)) _ | refine Below.alloc ?_ (by first | omega | (simp; done) | (simp; omega)) _))
  have O0 : LsO w.heap.size (w.alloc (.cells #[] 36)) (fun k => ⟨2, unflat (adS A B x k)⟩) 0 w.heap.size 0 [] [] := ⟨by simpa [msC] using Own.made w 36 2 #[] 0 (by omega) rfl, trivial, by simp, by simp⟩
  have N0 := N.keep B0
  go_enter Tryz.func84, Tryz.ntmps84
  go_wp2_with fail
  have zq : Hid ((w.alloc (.cells #[] 36)).heap.size = w.heap.size + 1) := by show _ = _; simp
  generalize w.alloc (.cells #[] 36) = w0 at *
  clear N
  refine (spec_l3Plain 2 0 _).mono ?_
  rintro e w1 ⟨u, bc, rfl, ⟨pc, cc, rfl, hM⟩, hbc, hb1⟩
  change Mat w1 (.slice pc 4 cc) (unflat z16L) bc at hM
  have hml : ({ xQ := 2, xViews := mirRows [0, 0, 0, 0] } : MMirror).xViews.length = 4 := rfl
  simp only [hml]
  have O1 := O0.off (cs := []) (Off.ofBelow hb1) (by simp)
  have N1 := N0.keep hb1
  have B1 := B0.trans (hb1.mono B0.size)
  have z1 := hb1.size
  have Zn := Blk.new w1 36 #[.int .i64 0, .slice none 0 0]
  have ltM := hM.lt
  go_upto_region 3 with (refine wpList_store_blk rfl 36 _ _ rfl w1.heap.size #[.int .i64 2, .slice pc 4 cc] rfl rfl Zn rfl (by kernel_rfl) (by kernel_rfl) ?_; intro w2 Z2 O2)
  have O2' : Off [w1.heap.size] w1 w2 := ((Off.refl _ _).alloc _).trans O2
  have lo := O1.lts
  have S2 : AdIn w w2 A B x b0 bs w1.heap.size 0 w.heap.size 0 [] [] bc bs pc cc := by
    have zq' := zq.out
    refine ⟨O1.off O2' (fun y hy hm => by have := lo y hy; simp at hm; omega), Z2, hM.off O2' (fun y hy hm => by have := ltM y hy; simp at hm; omega), N1.off O2' (by simp; omega) (fun y hy hm => by have := lNs y hy; simp at hm; omega), fun y hy => .inl hy, (Off.ofBelow B1).mix O2' (fun y hy => by simp at hy; right; omega), ?_, fun h => by have := ltM _ h; omega, ?_, fun h => by have := hbc _ h; omega, fun i hi => by obtain rfl : i = 0 := (by omega); exact hq0⟩
    · intro y hy
      rcases hy with h | h | h
      · exact ⟨by omega, fun hm => by have := lNs _ hm; omega⟩
      · exact ⟨by have := hbc y h; omega, fun hm => by have := lNs _ hm; have := hbc y h; omega⟩
      · have : y = w.heap.size := by simpa using h
        exact ⟨by omega, fun hm => by have := lNs _ hm; omega⟩
    · intro h
      have : w1.heap.size = w.heap.size := by simpa using h
      omega
  clear O0 O1 N0 N1 B0 B1 z1 Zn ltM O2 O2' lo Z2 hM hbc hb1 zq hml
  generalize w1.heap.size = gC at *
  go_wp2
  go_loopw [8, 10, 11, 12, 13, 14] (fun ov i _ _ _ _ wr => ∃ k g cap us bi bc cs pc cc, k ≤ 7 ∧ i = .int .i64 (k : Nat) ∧ ov = .slice (some ⟨g, 0, none⟩) k cap ∧ AdIn w wr A B x b0 bs gC k g cap us bi bc cs pc cc) (fun _ i _ _ _ _ _ => 8 - (intOf i).toNat)
  case atStart => exact ⟨0, _, _, _, _, _, _, _, _, Nat.zero_le _, rfl, rfl, S2⟩
  case round =>
    clear S2
    obtain ⟨k, g, cap, us, bi, bc, cs, pc, cc, hk7, rfl, rfl, O, Z, MC, N, hcs, P, hap, n1, n2, n3, hqs⟩ := hrel
    have hk1 : (k : Int) < 8 := by omega
    have hk0 : (0 : Int) ≤ (k : Int) := by omega
    obtain ⟨vA, FA⟩ := HFA.out k (by omega)
    obtain ⟨vB, FB⟩ := HFB.out k (by omega)
    obtain ⟨oC, wC, NBk⟩ := HOK.out k hk7
    have oA := HAk.out k (by omega)
    have oB := HBk.out k (by omega)
    have K6 := spec_l3Mix_add gA (k * 2) gC 0 vA _ (A k) (adCa A B x k) wr (FA wr P) (MirAt.box Z MC) oA.1 oC
    have hX : addF 2 (A k) (adCa A B x k) = adX A B x k := rfl
    have hY : addF 2 (B k) (adCa A B x k) = adY A B x k := rfl
    have hS : addF 2 (adX A B x k) (B k) = adS A B x k := rfl
    have okX : Ok16 2 (adX A B x k) := addF_ok16 (.inl rfl) _ _
    have okY : Ok16 2 (adY A B x k) := addF_ok16 (.inl rfl) _ _
    have owX : Own0 (adX A B x k) := addF_own0 oA.2 wC
    have HQS : Hid (∀ i, i ≤ k → (adNt A B x i).xQuarrel.xSome = false) := hqs
    have HAP : Hid (∀ y, y = gC ∨ y ∈ bc ∨ y ∈ g :: bi.flatten → w.heap.size ≤ y ∧ y ∉ cs) := hap
    have HCS : Hid (∀ y ∈ cs, y ∈ bs ∨ w.heap.size ≤ y) := hcs
    have zP := P.size
    have hqk := hqs k (Nat.le_refl _)
    rw [hX] at K6
    clear hap hcs hqs
    go_wp2_with fail
    refine K6.mono ?_
    rintro e w1 ⟨px, cx, bx, rfl, MX, hbx, hb1⟩
    have Zn := Blk.new w1 36 #[.int .i64 0, .slice none 0 0]
    have ltX := MX.lt
    have s1 := hb1.size
    go_upto_region 7 with (refine wpList_store_blk rfl 36 _ _ rfl w1.heap.size #[.int .i64 2, .slice px 4 cx] rfl rfl Zn rfl (by kernel_rfl) (by kernel_rfl) ?_; intro w2 X2 O2)
    have O2' : Off [w1.heap.size] w1 w2 := ((Off.refl _ _).alloc _).trans O2
    have b2 : Below wr.heap.size wr w2 := hb1.trans (O2'.toBelow s1 (by simp; omega))
    have MX2 := MX.off O2' (fun y hy hm => by have := ltX y hy; simp at hm; omega)
    have hgX : wr.heap.size ≤ w1.heap.size := s1
    have lX2 := X2.lt
    clear Zn MX O2 O2' hb1 K6
    generalize w1.heap.size = gX at *
    have P2 : Off (b0 :: bs) w w2 := P.trans (Off.ofBelow b2)
    have K7 := spec_l3Mix_add gB (k * 2) gC 0 vB _ (B k) (adCa A B x k) w2 (FB w2 P2) (MirAt.box (Z.keep b2) (MC.keep b2)) oB oC
    rw [hY] at K7
    go_wp2_with fail
    refine K7.mono ?_
    rintro e w3 ⟨py, cy, by', rfl, MY, hby, hb3⟩
    have Zn := Blk.new w3 36 #[.int .i64 0, .slice none 0 0]
    have ltY := MY.lt
    have s3 := hb3.size
    have X3 := X2.keep hb3
    have MX3 := MX2.keep hb3
    go_upto_region 8 with (refine wpList_store_blk rfl 36 _ _ rfl w3.heap.size #[.int .i64 2, .slice py 4 cy] rfl rfl Zn rfl (by kernel_rfl) (by kernel_rfl) ?_; intro w4 Y4 O4)
    have O4' : Off [w3.heap.size] w3 w4 := ((Off.refl _ _).alloc _).trans O4
    have s2 := b2.size
    have b4 : Below wr.heap.size wr w4 := (b2.trans (hb3.mono s2)).trans (O4'.toBelow (by omega) (by simp; omega))
    have MY4 := MY.off O4' (fun y hy hm => by have := ltY y hy; simp at hm; omega)
    have X4 := X3.off O4' (by simp; omega)
    have MX4 := MX3.off O4' (fun y hy hm => by have := ltX y hy; simp at hm; omega)
    have hgY : w2.heap.size ≤ w3.heap.size := s3
    have lY4 := Y4.lt
    clear Zn MY O4 O4' hb3 K7 X2 X3 MX2 MX3
    generalize w3.heap.size = gY at *
    have P4 : Off (b0 :: bs) w w4 := P.trans (Off.ofBelow b4)
    have K8 := spec_l3Mix_add gX 0 gB (k * 2) _ vB (adX A B x k) (B k) w4 (MirAt.box X4 MX4) (FB w4 P4) okX oB
    rw [hS] at K8
    go_wp2_with fail
    refine K8.mono ?_
    rintro e w5 ⟨ps, cS, bS, rfl, MS, hbS, hb5⟩
    have s4 := b4.size
    have s5 := hb5.size
    have b5 : Below wr.heap.size wr w5 := b4.trans (hb5.mono s4)
    have s5' := b5.size
    have X5 := X4.keep hb5
    have Y5 := Y4.keep hb5
    have MX5 := MX4.keep hb5
    have MY5 := MY4.keep hb5
    have O5 := O.off (cs := []) (Off.ofBelow b5) (by simp)
    have lo := O.lts
    have hox := O5.1
    have hS2 : ∀ y ∈ bS, y ∉ g :: bi.flatten := fun y hy hc => by have := lo y hc; have := hbS y hy; omega
    have hS3 : ∀ y ∈ bS, w.heap.size ≤ y := fun y hy => by have := hbS y hy; omega
    clear X4 Y4 MX4 MY4 hb5 K8
    go_wp2_with (at_builtin; refine wpList_append_Own rfl _ _ 56 rfl 36 iM (.agg #[.int .i64 0, .slice none 0 0]) 2 32 Tryz.underlying56 hiM hzM0 hzM1 hzM2 rfl (by decide) _ _ _ [g] rfl (Own.alloc hox _) ⟨w5.heap.size, 0, none⟩ 1 1 [.int .i64 2, .slice ps 4 cS] rfl rfl ?c1 ?c2 ?c3 ?c4 ?c5 ?_)
    try (case c1 => exact World.news_of_block (Blk.new _ _ _))
    case c2 => first | exact ⟨rfl, rfl⟩ | (intro u hu; simp only [List.mem_cons, List.not_mem_nil, or_false] at hu; rcases hu with h | h <;> (rw [h]; rfl))
    try (case c3 => omega)
    case c4 => unfold maxLen; omega
    case c5 => omega
    intro g3 c3 w6 hO3 hoff hg3
    have O6 : LsO w.heap.size w6 (fun k => ⟨2, unflat (adS A B x k)⟩) (k + 1) g3 c3 (us ++ [.slice ps 4 cS]) (bi ++ [bS]) := LsO.push (O5.off (cs := []) ((Off.refl _ _).alloc (.cells #[.int .i64 2, .slice ps 4 cS] 36)) (by simp)) (MS.alloc _) hS2 hS3 (by simp; omega) hO3 hoff (by simpa using hg3)
    have bb : Below wr.heap.size wr (w5.alloc (.cells #[.int .i64 2, .slice ps 4 cS] 36)) := b5.alloc s5' _
    have F6 : Off [g] wr w6 := (Off.ofBelow bb).trans hoff
    obtain ⟨hg0, hgc⟩ := HAP.out g (.inr (.inr (by simp)))
    have lgw := lo g (by simp)
    have lcs := N.lts
    have ln := N.lt
    have lZ := Z.lt
    have lMC := MC.lt
    have Z6 := Z.off F6 (fun hm => by simp at hm; exact n2 (by rw [hm]; simp))
    have MC6 := MC.off F6 (fun y hy hm => by simp at hm; exact n3 (hm ▸ hy))
    have N6 := N.off F6 (fun hm => by simp at hm; omega) (fun y hy hm => by simp at hm; exact hgc (hm ▸ hy))
    have P6 : Off (b0 :: bs) w w6 := P.mix F6 (fun y hy => by simp at hy; right; omega)
    have X6 := (X5.alloc (.cells #[.int .i64 2, .slice ps 4 cS] 36)).off hoff (by simp; omega)
    have Y6 := (Y5.alloc (.cells #[.int .i64 2, .slice ps 4 cS] 36)).off hoff (by simp; omega)
    have MX6 := (MX5.alloc (.cells #[.int .i64 2, .slice ps 4 cS] 36)).off hoff (fun y hy hm => by have := hbx y hy; simp at hm; omega)
    have MY6 := (MY5.alloc (.cells #[.int .i64 2, .slice ps 4 cS] 36)).off hoff (fun y hy hm => by have := hby y hy; simp at hm; omega)
    have z6 := F6.size
    have lo6 := O6.lts
    have HL6 : Hid (∀ y ∈ g3 :: (bi ++ [bS]).flatten, w.heap.size ≤ y ∧ y ∉ cs ∧ y ≠ gC) := fun y hy => by
      have hbig : wr.heap.size ≤ y → w.heap.size ≤ y ∧ y ∉ cs ∧ y ≠ gC := fun h => ⟨by omega, fun hm => by have := lcs _ hm; omega, by omega⟩
      have hold : y ∈ g :: bi.flatten → w.heap.size ≤ y ∧ y ∉ cs ∧ y ≠ gC := fun h => ⟨(HAP.out y (.inr (.inr h))).1, (HAP.out y (.inr (.inr h))).2, fun e => n2 (e ▸ h)⟩
      rcases List.mem_cons.1 hy with h | h
      · rcases hg3 with h2 | h2
        · exact hold (by rw [h, ← h2]; simp)
        · refine hbig ?_
          (try simp at h2); omega
      · rw [show (bi ++ [bS]).flatten = bi.flatten ++ bS by simp] at h
        rcases List.mem_append.1 h with h | h
        · exact hold (by simp only [List.mem_cons]; exact .inr h)
        · have := hbS y h
          exact hbig (by omega)
    have hbx0 : ∀ y ∈ bx, wr.heap.size ≤ y := hbx
    have hby0 : ∀ y ∈ by', wr.heap.size ≤ y := fun y hy => by have := hby y hy; omega
    clear hO3 hoff hg3 O5 O X5 Y5 MX5 MY5 hox hS2 hS3 MS F6 bb b5 b4 b2 N Z MC P P2 P4 lo hbS hbx hby
    by_cases h7k : k = 7
    · have e7 : (((k : Nat) : Int) == 7) = true := by simp; omega
      have eR : adR A B x = adNt A B x k := HRA.out k hk7 (fun i hi => HQS.out i (by omega)) (.inr h7k)
      have eT : Ending.returned (.tuple #[.slice (some ⟨g3, 0, none⟩) (k + 1) c3, .bool true]) = Ending.returned (.tuple #[.slice (some ⟨g3, 0, none⟩) (k + 1) c3, .bool (!(adR A B x).xQuarrel.xSome)]) := by rw [eR, hqk]; rfl
      go_wp2
      try rw [Exit.noGoto_ret]
      exact bodyPost_ret (v := .tuple #[.slice (some ⟨g3, 0, none⟩) (k + 1) c3, .bool true]) (by simp [results, Tryz.results84, go_sem]) rfl ⟨.slice (some ⟨g3, 0, none⟩) (k + 1) c3, cs, eT, by rw [eR]; exact N6, HCS.out, P6, fun _ => ⟨g3, c3, _, _, by rw [h7k], by rw [h7k] at O6; exact O6, fun y hy => (HL6.out y hy).2.1⟩⟩
    · have e7 : (((k : Nat) : Int) == 7) = false := by simp; omega
      have SA : Blk ((w6.alloc (.cells #[.int .i64 2, .slice px 4 cx] 36)).alloc (.cells #[.int .i64 2, .slice py 4 cy] 36)) w6.heap.size 36 #[.int .i64 2, .slice px 4 cx] := (Blk.new w6 _ _).alloc _
      have SB : Blk ((w6.alloc (.cells #[.int .i64 2, .slice px 4 cx] 36)).alloc (.cells #[.int .i64 2, .slice py 4 cy] 36)) (w6.heap.size + 1) 36 #[.int .i64 2, .slice py 4 cy] := by simpa using Blk.new (w6.alloc (.cells #[.int .i64 2, .slice px 4 cx] 36)) 36 #[.int .i64 2, .slice py 4 cy]
      have b8 : Below w6.heap.size w6 ((w6.alloc (.cells #[.int .i64 2, .slice px 4 cx] 36)).alloc (.cells #[.int .i64 2, .slice py 4 cy] 36)) := ((Below.refl _ _).alloc (Nat.le_refl _) _).alloc ((Below.refl _ _).alloc (Nat.le_refl _) _).size _
      have z8 : Hid (((w6.alloc (.cells #[.int .i64 2, .slice px 4 cx] 36)).alloc (.cells #[.int .i64 2, .slice py 4 cy] 36)).heap.size = w6.heap.size + 2) := by show _ = _; simp
      have nh : ∀ y, wr.heap.size ≤ y → y ∉ b0 :: cs := fun y hy hm => by rcases List.mem_cons.1 hm with h | h; omega; (have := lcs _ h; omega)
      have K10 := spec_l5DotO 2 (.slice (some ⟨w6.heap.size, 0, none⟩) 1 1) (.slice (some ⟨w6.heap.size + 1, 0, none⟩) 1 1) 1 [⟨2, unflat (adX A B x k)⟩] [⟨2, unflat (adY A B x k)⟩] b0 (adNt A B x k) cs (m + 12 * k) _ (N6.keep b8) NBk (by omega) hqk (fun W h => RdMirrorS.one (m := ⟨2, unflat (adX A B x k)⟩) (SA.off h (nh _ (by omega))) ((MX6.keep b8).off h (fun y hy => nh y (hbx0 y hy))).reads) (fun W h => RdMirrorS.one (m := ⟨2, unflat (adY A B x k)⟩) (SB.off h (nh _ (by omega))) ((MY6.keep b8).off h (fun y hy => nh y (hby0 y hy))).reads) (RowOk_l2 okX okY owX) rfl
      change Calls _ _ _ _ (fun e w' => ∃ cs2, DotOut _ w' e 2 (prF 2 (adX A B x k) (adY A B x k) (adNt A B x k)) (adNt A B x (k + 1)).xQuarrel.xSome cs2 ∧ NetIn w' b0 (adNt A B x (k + 1)) cs2 ∧ (∀ y ∈ cs2, y ∈ cs ∨ _ ≤ y) ∧ Off (b0 :: cs) _ w') at K10
      have okP : Ok16 2 (prF 2 (adX A B x k) (adY A B x k) (adNt A B x k)) := (prF_ok (.inl rfl) _ _ NBk).2
      have eCa : addF 2 (prF 2 (adX A B x k) (adY A B x k) (adNt A B x k)) (adCa A B x k) = adCa A B x (k + 1) := rfl
      generalize prF 2 (adX A B x k) (adY A B x k) (adNt A B x k) = pf at *
      have Y6a := Y6.alloc (.cells #[.int .i64 2, .slice px 4 cx] 36)
      clear SA SB
      go_wp2_with (first | (refine wpList_load_blk rfl 36 _ rfl gX rfl X6 Tryz.underlying36 rfl (by kernel_rfl) ?_) | (refine wpList_load_blk rfl 36 _ rfl gY rfl Y6a Tryz.underlying36 rfl (by kernel_rfl) ?_))
      refine K10.mono ?_
      rintro e w9 ⟨cs2, hD, N9, hcs9, O9⟩
      have z8o := z8.out
      have z9 := O9.size
      have O69 : Off (b0 :: cs) w6 w9 := (Off.ofBelow b8).trans O9
      have hgC := HAP.out gC (.inl rfl)
      have Z9 := Z6.off O69 (fun hm => by rcases List.mem_cons.1 hm with h | h; omega; (exact hgC.2 h))
      have MC9 := MC6.off O69 (fun y hy hm => by have := HAP.out y (.inr (.inl hy)); rcases List.mem_cons.1 hm with h | h; omega; (exact this.2 h))
      have O9L := O6.off O69 (fun y hy hm => by have := HL6.out y hy; rcases List.mem_cons.1 hm with h | h; omega; (exact this.2.1 h))
      have P9 : Off (b0 :: bs) w w9 := P6.mix O69 (fun y hy => by rcases List.mem_cons.1 hy with h | h; (left; rw [h]; simp); (rcases HCS.out y h with h2 | h2; (left; simp [h2]); (right; exact h2)))
      have hcs2 : ∀ y ∈ cs2, y ∈ bs ∨ w.heap.size ≤ y := fun y hy => by rcases hcs9 y hy with h | h; (exact HCS.out y h); (right; omega)
      have hnot : ∀ y, y < w6.heap.size → y ∉ cs → y ∉ cs2 := fun y h1 h2 hm => by rcases hcs9 y hm with h | h; (exact h2 h); omega
      have l9 := N9.lts
      have l9n := N9.lt
      rw [z8o] at z9
      clear K10 X6 Y6 Y6a MX6 MY6 Z6 MC6 N6 P6 O6 O9 O69 b8 z8 hcs9 nh z8o
      have Pn := Blk.new w9 36 #[.int .i64 0, .slice none 0 0]
      rcases hD with ⟨hq9, rfl⟩ | ⟨hq9, zv, bp, rfl, MP, hbp, hbp2⟩
      · have eR : adR A B x = adNt A B x (k + 1) := HRA.out (k + 1) (by omega) (fun i hi => HQS.out i (by omega)) (.inl hq9)
        clear Z9 MC9 O9L
        go_wp2_with (refine wpList_store_blk rfl 36 _ _ rfl w9.heap.size #[.int .i64 0, .slice none 0 0] rfl rfl Pn rfl (by kernel_rfl) (by kernel_rfl) ?_; intro w10 P10 O10)
        have O10' : Off [w9.heap.size] w9 w10 := ((Off.refl _ _).alloc _).trans O10
        have N10 := N9.off O10' (by simp; omega) (fun y hy hm => by have := l9 y hy; simp at hm; omega)
        have PW : Off (b0 :: bs) w w10 := P9.mix O10' (fun y hy => by simp at hy; right; omega)
        clear Pn P10 O10 O10' N9 P9
        have eT : Ending.returned (.tuple #[.slice none 0 0, .bool false]) = Ending.returned (.tuple #[.slice none 0 0, .bool (!(adR A B x).xQuarrel.xSome)]) := by rw [eR, hq9]; rfl
        try go_wp2
        try rw [Exit.noGoto_ret]
        exact bodyPost_ret (v := .tuple #[.slice none 0 0, .bool false]) (by simp [results, Tryz.results84, go_sem]) rfl ⟨.slice none 0 0, cs2, eT, by rw [eR]; exact N10, hcs2, PW, fun h => by rw [eR, hq9] at h; cases h⟩
      · obtain ⟨pz, cz, rfl⟩ := MP.value
        change Mat w9 (.slice pz 4 cz) (unflat pf) bp at MP
        have huf : (unflat pf).length = 4 := rfl
        simp only [huf]
        have ltP := MP.lt
        go_upto_region 11 with (refine wpList_store_blk rfl 36 _ _ rfl w9.heap.size #[.int .i64 2, .slice pz 4 cz] rfl rfl Pn rfl (by kernel_rfl) (by kernel_rfl) ?_; intro w10 P10 O10)
        have O10' : Off [w9.heap.size] w9 w10 := ((Off.refl _ _).alloc _).trans O10
        have N10 := N9.off O10' (by simp; omega) (fun y hy hm => by have := l9 y hy; simp at hm; omega)
        have PW := P9.mix O10' (fun y hy => by simp at hy; right; omega)
        have lz9 := Z9.lt
        have Z10 := Z9.off O10' (by simp; omega)
        have ltC := MC9.lt
        have MC10 := MC9.off O10' (fun y hy hm => by have := ltC y hy; simp at hm; omega)
        have MP10 := MP.off O10' (fun y hy hm => by have := ltP y hy; simp at hm; omega)
        have lo9 := O9L.lts
        have OL10 := O9L.off O10' (fun y hy hm => by have := lo9 y hy; simp at hm; omega)
        have K13 := spec_l3Mix_add w9.heap.size 0 gC 0 _ _ pf (adCa A B x k) w10 (MirAt.box P10 MP10) (MirAt.box Z10 MC10) okP oC
        rw [eCa] at K13
        have z10 := O10'.size
        clear Pn O10 O10' N9 P9 Z9 MC9 O9L MP
        go_wp2_with fail
        refine K13.mono ?_
        rintro e w11 ⟨pn, cn, bn, rfl, MN, hbn, hb11⟩
        have N11 := N10.keep hb11
        have PW11 := PW.trans (Off.ofBelow hb11)
        have Z11 := Z10.keep hb11
        have OL11 := OL10.off (cs := []) (Off.ofBelow hb11) (by simp)
        have z11 := hb11.size
        clear K13 N10 PW Z10 MC10 MP10 OL10 P10 hb11
        go_wp2_with (refine wpList_store_blk rfl 36 _ _ rfl gC #[.int .i64 2, .slice pn 4 cn] rfl rfl Z11 rfl (by kernel_rfl) (by kernel_rfl) ?_; intro w12 Z12 O12)
        have S12 : AdIn w w12 A B x b0 bs gC (k + 1) g3 c3 (us ++ [.slice ps 4 cS]) (bi ++ [bS]) bn cs2 pn cn := by
          refine ⟨OL11.off O12 (fun y hy hm => by simp at hm; exact (HL6.out y hy).2.2 hm), Z12, MN.off O12 (fun y hy hm => by have := hbn y hy; simp at hm; omega), N11.off O12 (by simp; omega) (fun y hy hm => by simp at hm; exact hnot gC (by omega) hgC.2 (hm ▸ hy)), hcs2, PW11.mix O12 (fun y hy => by simp at hy; right; omega), ?_, fun h => by have := hbn _ h; omega, fun h => (HL6.out _ h).2.2 rfl, fun h => by have := hbn _ h; have := lo6 g3 (by simp); omega, fun i hi => ?_⟩
          · intro y hy
            rcases hy with h | h | h
            · rw [h]
              exact ⟨hgC.1, hnot gC (by omega) hgC.2⟩
            · have := hbn y h
              exact ⟨by omega, fun hm => by have := l9 y hm; omega⟩
            · have h6 := HL6.out y h
              exact ⟨h6.1, hnot y (lo6 y h) h6.2.1⟩
          · by_cases e : i = k + 1
            · rw [e]; exact hq9
            · exact HQS.out i (by omega)
        clear N11 PW11 Z11 OL11 Z12 O12 MN
        go_wp2
        go_roundw
        case rel => exact ⟨k + 1, _, _, _, _, _, _, _, _, by omega, by go_num, rfl, S12⟩
        case measure => simp [intOf]; omega
end Go.Proofs.YtepobckhfodngaoGreat
