/-
  Bits of one part in the model.
-/
import Derived.Test.YtepobckhfodngaoGreatPbJ
import Derived.Test.YtepobckhfodngaoGreatSpB
import Derived.Test.YtepobckhfodngaoGreatMirM
import Derived.Test.YtepobckhfodngaoGreatMirV
import Derived.Test.YtepobckhfodngaoGreatApp
namespace Go.Proofs.YtepobckhfodngaoGreat
open Go.ChangeShapes Go.WideShapes Go.ChangeAt Go.RowKit
set_option linter.unusedVariables false

theorem halfN_zero : ∀ n, halfN 0 n = 0
  | 0 => rfl
  | n + 1 => by rw [halfN, halfN_zero n]; rfl
theorem bitsN_get (v : Int) : ∀ (n b : Nat), b < n → (bitsN v n)[b]? = some (halfN v b % 2)
  | 0, b, h => by omega
  | n + 1, b, h => by
    rw [bitsN_snoc]
    by_cases k : b < n
    · rw [List.getElem?_append_left (by rw [bitsN_length]; exact k)]
      exact bitsN_get v n b k
    · obtain rfl : b = n := by omega
      rw [List.getElem?_append_right (by rw [bitsN_length]; exact Nat.le_refl _), bitsN_length]
      simp
/-- the first N numbers of a share, and nothing behind -/
def shT (F : Nat → Int) (b N : Nat) : List Int := (List.range 16).map fun (j : Nat) => if j < N then F (b * 17 + 1 + j) else 0
theorem shT_len (F : Nat → Int) (b N : Nat) : (shT F b N).length = 16 := by simp [shT]
theorem shT_zero (F : Nat → Int) (b : Nat) : unflat (shT F b 0) = mirRows [0, 0, 0, 0] := rfl
theorem shT_all (F : Nat → Int) (b : Nat) : shT F b 16 = shV F b := by
  unfold shT shV
  refine List.map_congr_left (fun j hj => ?_)
  rw [if_pos (by simpa using hj)]
theorem shT_step {F : Nat → Int} {b N M a : Nat} {v : Int} (h1 : N ≤ a) (h2 : a < M) (hv : F (b * 17 + 1 + a) = v) (h0 : ∀ j, N ≤ j → j < M → j ≠ a → F (b * 17 + 1 + j) = 0) : (shT F b N).set a v = shT F b M := by
  apply List.ext_getElem
  · simp [shT]
  · intro j hj hj'
    rw [List.getElem_set]
    simp only [shT, List.getElem_map, List.getElem_range]
    by_cases e : a = j
    · subst e
      rw [if_pos rfl, if_pos h2, hv]
    · rw [if_neg e]
      by_cases k : j < N
      · rw [if_pos k, if_pos (by omega)]
      · rw [if_neg k]
        by_cases k2 : j < M
        · rw [if_pos k2, h0 j (by omega) k2 (fun h => e h.symm)]
        · rw [if_neg k2]
theorem shT_same {F : Nat → Int} {b N M : Nat} (h : N ≤ M) (h0 : ∀ j, N ≤ j → j < M → F (b * 17 + 1 + j) = 0) : shT F b N = shT F b M := by
  unfold shT
  refine List.map_congr_left (fun j _ => ?_)
  by_cases k : j < N
  · rw [if_pos k, if_pos (by omega)]
  · rw [if_neg k]
    by_cases k2 : j < M
    · rw [if_pos k2, h0 j (by omega) k2]
    · rw [if_neg k2]
/-- the mirrors that stand already -/
def PbO (w wr : World) (F : Nat → Int) (b g cap : Nat) (us : List Value) (bi : List (List Nat)) : Prop :=
  Own wr 36 2 (.slice (some ⟨g, 0, none⟩) b cap) b (msC us ((List.range b).map (shM F))) [g] ∧ MsR wr us ((List.range b).map (shM F)) bi ∧ (g :: bi.flatten).Nodup ∧ (∀ y ∈ g :: bi.flatten, w.heap.size ≤ y)
theorem PbO.lts {w wr : World} {F : Nat → Int} {b g cap : Nat} {us : List Value} {bi : List (List Nat)} (h : PbO w wr F b g cap us bi) : ∀ y ∈ g :: bi.flatten, y < wr.heap.size := fun y hy => by
  rcases List.mem_cons.1 hy with k | k
  · exact h.1.lt y (by simp [k])
  · exact h.2.1.lt y k
theorem PbO.off {w wr w' : World} {F : Nat → Int} {b g cap : Nat} {us : List Value} {bi : List (List Nat)} {cs : List Nat} (h : PbO w wr F b g cap us bi) (o : Off cs wr w') (hn : ∀ y ∈ g :: bi.flatten, y ∉ cs) : PbO w w' F b g cap us bi :=
  ⟨h.1.off o (fun y hy => hn y (by simp at hy; simp [hy])), h.2.1.off o (fun y hy => hn y (by simp only [List.mem_cons]; exact .inr hy)), h.2.2⟩
theorem PbO.push {w W w3 : World} {F : Nat → Int} {b g cap g3 c3 : Nat} {us : List Value} {bi : List (List Nat)} {u : Value} {bm : List Nat} (h : PbO w W F b g cap us bi) (M : Mat W u (shM F b).xViews bm) (hm : ∀ y ∈ bm, y ∉ g :: bi.flatten) (hm2 : ∀ y ∈ bm, w.heap.size ≤ y) (hw : w.heap.size ≤ W.heap.size)
    (o3 : Own w3 36 2 (.slice (some ⟨g3, 0, none⟩) (b + 1) c3) (b + 1) (msC us ((List.range b).map (shM F)) ++ [.int .i64 (shM F b).xQ, u]) [g3]) (off : Off [g] W w3) (hg : g = g3 ∨ W.heap.size ≤ g3) : PbO w w3 F (b + 1) g3 c3 (us ++ [u]) (bi ++ [bm]) := by
  obtain ⟨h1, h2, h3, h4⟩ := h
  have e : (List.range (b + 1)).map (shM F) = (List.range b).map (shM F) ++ [shM F b] := by rw [List.range_succ, List.map_append]; rfl
  have l2 := h2.lt
  have lM := M.lt
  have nd : bm.Nodup := by obtain ⟨_, _, _, _, _, _, k⟩ := M; exact k
  have ng : g ∉ bi.flatten := (List.nodup_cons.1 h3).1
  have fe : (bi ++ [bm]).flatten = bi.flatten ++ bm := by simp
  have g3n : g3 ∉ bi.flatten ++ bm := fun hc => by
    rcases List.mem_append.1 hc with k | k
    · rcases hg with rfl | hg
      · exact ng k
      · have := l2 _ k; omega
    · rcases hg with rfl | hg
      · exact hm _ k (by simp)
      · have := lM _ k; omega
  refine ⟨by rw [e, msC_snoc u (shM F b) h2.len.1]; exact o3, by rw [e]; exact MsR.snoc (h2.off off (fun y hy hc => by simp at hc; exact ng (hc ▸ hy))) (M.off off (fun y hy hc => by simp at hc; exact hm y hy (by simp [hc]))), ?_, ?_⟩
  · rw [fe]
    exact List.nodup_cons.2 ⟨g3n, nodup_app (List.nodup_cons.1 h3).2 nd (fun y hy hc => hm y hc (by simp only [List.mem_cons]; exact .inr hy))⟩
  · intro y hy
    rw [fe] at hy
    rcases List.mem_cons.1 hy with k | k
    · rcases hg with e | e
      · rw [k, ← e]; exact h4 g (by simp)
      · omega
    · rcases List.mem_append.1 k with k | k
      · exact h4 y (by simp only [List.mem_cons]; exact .inr k)
      · exact hm2 y k
theorem Tryz.infoMq : (Tryz.prog.info? 36).map (fun i => (i.zero, i.size, i.bytes)) = some (some (.agg #[.int .i64 0, .slice none 0 0]), 2, 32) := by kernel_rfl
set_option maxHeartbeats 8000000 in
set_option maxRecDepth 100000 in
theorem spec_l8Part (b0 : Nat) (xss : List (List Int)) (part : Nat) (w : World) (FX : Four w b0 256 xss) (hown : ∀ i, i < 4 → pt xss i i = 0) (hp : part < 4) :
    Calls Tryz.prog 85 #[.pointer (some ⟨b0, 0, none⟩), .int .i64 part] w fun e w' => ∃ v bs, e = .returned v ∧ OwMirrorS w' v (pbL xss part) bs ∧ (∀ y ∈ bs, w.heap.size ≤ y) ∧ Below w.heap.size w w' := by
  obtain ⟨iM, hiM, hzM0, hzM1, hzM2⟩ := info_parts Tryz.infoMq
  obtain ⟨i1, gi, gz0, gz1, gz2⟩ := info_parts Tryz.infoI
  have HBD : Hid (∀ i j, 0 ≤ pt xss i j ∧ pt xss i j < 256) := by obtain ⟨_, _, _, _, _, h⟩ := FX; exact h
  have HC : Hid (∀ i, i < 4 → ∃ gb off c g2 o2 d, ∀ W, Below w.heap.size w W → (∀ o, W.cell? ⟨b0, o, none⟩ = (#[.int .i64 256, .slice (some ⟨gb, off, none⟩) 4 c] : Array Value)[o]?) ∧ W.cell? ⟨gb, off + i, none⟩ = some (.slice (some ⟨g2, o2, none⟩) 4 d) ∧ W.cell? ⟨g2, o2 + part, none⟩ = some (.int .i64 (pt xss i part))) := fun i hi => FX.cellsAll i part hi hp
  show Calls _ _ _ _ (fun e w' => ∃ v bs, e = .returned v ∧ OwMirrorS w' v ((List.range 8).map (shM (bpF xss part))) bs ∧ _ ∧ _)
  have HFO : Hid (∀ b i, i < 4 → i = part → halfN (pt xss i part) b % 2 = 0) := fun b i hi e => by subst e; rw [hown i hi, halfN_zero]; rfl
  obtain ⟨F, hF⟩ : ∃ f, f = bpF xss part := ⟨_, rfl⟩
  have HFQ : Hid (∀ b, F (b * 17) = 2) := fun b => by rw [hF]; exact bpF_q xss part b
  have HFA : Hid (∀ b i, i < 4 → F (b * 17 + 1 + (i * 4 + part)) = halfN (pt xss i part) b % 2) := fun b i hi => by rw [hF, show b * 17 + 1 + (i * 4 + part) = b * 17 + 1 + i * 4 + part by omega]; exact bpF_at xss b hp hi
  have HFN : Hid (∀ b i j, i < 4 → i * 4 ≤ j → j < i * 4 + 4 → j ≠ i * 4 + part → F (b * 17 + 1 + j) = 0) := fun b i j hi h1 h2 h3 => by rw [hF]; exact bpF_no (b := b) (i := i) xss hp hi (by omega) (by omega) (by omega)
  rw [← hF]
  have HP : Hid (part < 4) := hp
  have hk1 : (part : Int) < 4 := by omega
  have hk0 : (0 : Int) ≤ (part : Int) := by omega
  clear hF hown hp FX
  have O0 : PbO w (w.alloc (.cells #[] 36)) F 0 w.heap.size 0 [] [] := ⟨Own.made w 36 2 #[] 0 (by omega) rfl, trivial, by simp, by simp⟩
  have B0 : Below w.heap.size w (w.alloc (.cells #[] 36)) := (by repeat (first | exact Below.refl _ _ | refine Below.drew ?_ | refine below_drewN ?_ _ | refine Below.setCell ?_ (by first | omega | (simp; done) | (simp; omega)) _ | refine Below.alloc ?_ (by first | omega | (simp; done) | (simp; omega)) _))
  go_enter Tryz.func85, Tryz.ntmps85
  go_wp2
  go_loopw [5, 6, 7, 8] (fun ov i _ _ wr => ∃ b g cap : Nat, ∃ us : List Value, ∃ bi : List (List Nat), b ≤ 8 ∧ i = .int .i64 b ∧ ov = .slice (some ⟨g, 0, none⟩) b cap ∧ PbO w wr F b g cap us bi ∧ Below w.heap.size w wr) (fun _ i _ _ _ => 8 - (intOf i).toNat)
  case atStart => exact ⟨0, _, _, [], [], Nat.zero_le _, rfl, rfl, O0, B0⟩
  case round =>
    clear O0 B0
    obtain ⟨b, g, cap, us, bi, hb, rfl, rfl, O, B⟩ := hrel
    by_cases hlt : b < 8
    · have hb1 : (b : Int) < 8 := by omega
      have hb0 : (0 : Int) ≤ (b : Int) := by omega
      have HB8 : Hid (b < 8) := hlt
      clear hlt hb
      go_wp2_with (at_make; refine wpList_make_full _ rfl _ _ 25 rfl wr.heap.size 2 i1 (.int .i64 0) 1 Tryz.underlying25 gi gz0 gz1 _ _ _ _ 4 rfl rfl rfl rfl (by rw [gz2]; omega) (by unfold maxLen; omega) (Nat.le_refl _) ?_)
      intro w1 hown hgrow
      have hb1w : Below wr.heap.size wr w1 := (Below.refl _ _).grown hgrow (Nat.le_refl _) (fun k hk => by cases hk)
      have hrd : Reads w1 .i64 (.slice (some ⟨wr.heap.size, 0, none⟩) 4 4) [0, 0, 0, 0] := by
        obtain ⟨bs, h1, -⟩ := Own.of_owns hown
        have hc : (madeCells #[Value.int .i64 0] 4).toList = [.int .i64 0, .int .i64 0, .int .i64 0, .int .i64 0] := by kernel_rfl
        have h2 : Own w1 2 1 (.slice (some ⟨wr.heap.size, 0, none⟩) 4 4) 4 [.int .i64 0, .int .i64 0, .int .i64 0, .int .i64 0] bs := by rw [← hc]; simpa using h1
        exact Own.reads (xs := [0, 0, 0, 0]) (by simpa using h2)
      have O1 := O.off (cs := []) (Off.ofBelow hb1w) (by simp)
      have B1 := B.trans (hb1w.mono B.size)
      have sz1 := hb1w.size
      clear hown hgrow O B
      go_wp2_with fail
      refine (spec_l3Of 2 _ [0, 0, 0, 0] w1 hrd rfl).mono ?_
      rintro e w2 ⟨u, bx, rfl, ⟨px, cx, rfl, hM⟩, hbx, hb2⟩
      have O2 := O1.off (cs := []) (Off.ofBelow hb2) (by simp)
      have B2 := B1.trans (hb2.mono B1.size)
      have lo1 := O1.lts
      have sz2 := hb2.size
      clear O1 B1 hrd hb1w hb2
      have hml : (mirRows [0, 0, 0, 0]).length = 4 := rfl
      change Mat w2 (.slice px 4 cx) (mirRows [0, 0, 0, 0]) bx at hM
      have Zn := Blk.new w2 36 #[.int .i64 0, .slice none 0 0]
      have ltM := hM.lt
      go_wp2_with (refine wpList_store_blk rfl 36 _ _ rfl w2.heap.size #[.int .i64 2, .slice px 4 cx] rfl rfl Zn rfl (by kernel_rfl) (by kernel_rfl) ?_; intro w3 Z3 O3)
      have O3' : Off [w2.heap.size] w2 w3 := ((Off.refl _ _).alloc _).trans O3
      have lo2 := O2.lts
      have O4 := O2.off O3' (fun y hy hm => by have := lo2 y hy; simp at hm; omega)
      have B4 := B2.trans (O3'.toBelow B2.size (by have := B2.size; simp; omega))
      have M4 := hM.off O3' (fun y hy hm => by have := ltM y hy; simp at hm; omega)
      have N4 : MirIn w3 w2.heap.size 2 (shT F b 0) bx := ⟨_, Z3, by rw [shT_zero]; exact M4, fun h => by have := ltM _ h; omega⟩
      have hbx2 : ∀ y ∈ bx, y ∉ g :: bi.flatten := fun y hy hc => by have := lo1 y hc; have := hbx y hy; omega
      have hbx3 : ∀ y ∈ bx, w.heap.size < y := fun y hy => by have := hbx y hy; have := lo1 g (by simp); have := O2.2.2.2 g (by simp); omega
      have hgx : w.heap.size ≤ w2.heap.size ∧ w2.heap.size ∉ g :: bi.flatten := ⟨B2.size, fun hc => by have := lo2 _ hc; omega⟩
      clear Zn O3 O3' Z3 M4 hM O2 B2 hbx lo1 lo2 sz1 sz2 ltM hml
      generalize w2.heap.size = gx at *
      have P4 : Off bx w3 w3 := Off.refl _ _
      go_wp2
      go_loopw [8] (fun p wr => ∃ i : Nat, i ≤ 4 ∧ p = .int .i64 i ∧ MirIn wr gx 2 (shT F b (i * 4)) bx ∧ Off bx w3 wr) (fun p _ => 4 - (intOf p).toNat)
      case atStart => exact ⟨0, Nat.zero_le _, rfl, N4, P4⟩
      case round =>
        clear N4 P4
        obtain ⟨i, hi, rfl, N, P⟩ := hrel
        by_cases hil : i < 4
        · have hi1 : (i : Int) < 4 := by omega
          have hi0 : (0 : Int) ≤ (i : Int) := by omega
          have HI4 : Hid (i < 4) := hil
          by_cases hip : i = part
          · have hne : ((i : Int) != (part : Int)) = false := by simp; omega
            have hsm : shT F b (i * 4) = shT F b ((i + 1) * 4) := shT_same (by omega) (fun j h1 h2 => by
              by_cases hj : j = i * 4 + part
              · rw [hj, HFA.out b i hil]; exact HFO.out b i hil hip
              · exact HFN.out b i j hil h1 (by omega) hj)
            rw [hsm] at N
            clear hip hsm hil hi
            go_wp2
            go_roundw
            case rel => exact ⟨i + 1, HI4.out, by go_num, N, P⟩
            case measure => simp [intOf]; omega
          · have hne : ((i : Int) != (part : Int)) = true := by simp; omega
            obtain ⟨vx, Z, hM, nb⟩ := N
            obtain ⟨gv, cv, gr, cr, rfl, c1, mv, mr, ne, c2, hset⟩ := hM.part (shT_len F b (i * 4)) i hil
            obtain ⟨gb, off, cb, g2, o2, d, hC⟩ := HC.out i hil
            have BW : Below w.heap.size w wr := B4.trans (P.toBelow B4.size (fun y hy => Nat.le_of_lt (hbx3 y hy)))
            have lgv := hM.lt _ mv
            have lgr := hM.lt _ mr
            have f3 := (c2 part HP.out).2
            have hbg : gx ≠ gr := fun h => nb (h ▸ mr)
            have lZ := Z.lt
            have HSET : Hid (∀ W : World, (∀ y ∈ bx, W.heap[y]? = wr.heap[y]?) → Mat (W.setCell ⟨gr, part, none⟩ (.int .i64 (halfN (pt xss i part) b % 2))) (.slice (some ⟨gv, 0, none⟩) 4 cv) (unflat (shT F b ((i + 1) * 4))) bx) := fun W hW => by have := hset W hW part (halfN (pt xss i part) b % 2) HP.out; rwa [shT_step (M := (i + 1) * 4) (by omega) (by have := HP.out; omega) (HFA.out b i HI4.out) (fun j h1 h2 h3 => HFN.out b i j HI4.out h1 (by omega) h3)] at this
            have HSS : Hid (∀ V, Off [gr] wr V → (∀ o, V.cell? ⟨gx, o, none⟩ = (#[.int .i64 2, .slice (some ⟨gv, 0, none⟩) 4 cv] : Array Value)[o]?) ∧ V.cell? ⟨gv, i, none⟩ = some (.slice (some ⟨gr, 0, none⟩) 4 cr) ∧ (∀ o, V.cell? ⟨b0, o, none⟩ = (#[.int .i64 256, .slice (some ⟨gb, off, none⟩) 4 cb] : Array Value)[o]?) ∧ V.cell? ⟨gb, off + i, none⟩ = some (.slice (some ⟨g2, o2, none⟩) 4 d) ∧ V.cell? ⟨g2, o2 + part, none⟩ = some (.int .i64 (pt xss i part))) := fun V hV => ⟨(Z.off hV (by simp; exact hbg)).at.1, ((hV.at gv lgv (by simp; exact ne)).1 _).trans c1, hC V (BW.trans (hV.toBelow BW.size (fun y hy => by simp at hy; subst hy; exact Nat.le_of_lt (hbx3 _ mr))))⟩
            have HBB : Hid (0 ≤ pt xss i part ∧ pt xss i part < 256) := HBD.out i part
            have HLT : Hid (∀ y ∈ bx, y < wr.heap.size) := hM.lt
            have HNB : Hid (gx ∉ bx) := nb
            have HMR : Hid (gr ∈ bx) := mr
            have c3 := (c2 part HP.out).1
            clear c1 c2 hset hC hip hil hi nb hM
            generalize pt xss i part = vv at *
            obtain ⟨hv0, hv1⟩ := HBB.out
            go_wp2_with fail
            refine wp_region_held (S := fun V => (∀ o, V.cell? ⟨gx, o, none⟩ = (#[.int .i64 2, .slice (some ⟨gv, 0, none⟩) 4 cv] : Array Value)[o]?) ∧ V.cell? ⟨gv, i, none⟩ = some (.slice (some ⟨gr, 0, none⟩) 4 cr) ∧ (∀ o, V.cell? ⟨b0, o, none⟩ = (#[.int .i64 256, .slice (some ⟨gb, off, none⟩) 4 cb] : Array Value)[o]?) ∧ V.cell? ⟨gb, off + i, none⟩ = some (.slice (some ⟨g2, o2, none⟩) 4 d) ∧ V.cell? ⟨g2, o2 + part, none⟩ = some (.int .i64 vv)) (by kernel_rfl) ?_
            try (change wpAnyH _ _ _ _ _ _ _ _ (World.drew _))
            have bD : Below wr.heap.size wr wr.drew := (Below.refl _ _).drew
            have hS := HSS.out _ (Off.ofBelow bD)
            have szd : wr.drew.heap.size = wr.heap.size := rfl
            refine wpAnyH_take (i := 0) (v := ?vn1) rfl (by kernel_rfl) (by kernel_rfl) (by kernel_rfl) (fun _ _ _ h => h) (Or.inl ⟨by rfl, ?hn1⟩) hS ?rn1
            case hn1 => intro w' hSw; obtain ⟨s0, s1, s2, s3, s4⟩ := hSw; go_simp; (try with_reducible rfl)
            (try simp only [List.getElem_toArray]); (try simp only [List.getElem_cons_succ]); (try simp only [List.getElem_cons_zero]); (try simp only [Act.put]); (try simp only [List.setIfInBounds_toArray]); (try simp only [List.set_cons_succ]); (try simp only [List.set_cons_zero])
            refine wpAnyH_take (i := 1) (v := ?vn2) rfl (by kernel_rfl) (by kernel_rfl) (by kernel_rfl) (fun _ _ _ h => h) (Or.inl ⟨by rfl, ?hn2⟩) hS ?rn2
            case hn2 => intro w' hSw; obtain ⟨s0, s1, s2, s3, s4⟩ := hSw; go_simp; (try with_reducible rfl)
            (try simp only [List.getElem_toArray]); (try simp only [List.getElem_cons_succ]); (try simp only [List.getElem_cons_zero]); (try simp only [Act.put]); (try simp only [List.setIfInBounds_toArray]); (try simp only [List.set_cons_succ]); (try simp only [List.set_cons_zero])
            refine wpAnyH_take (i := 2) (v := ?vn3) rfl (by kernel_rfl) (by kernel_rfl) (by kernel_rfl) (fun _ _ _ h => h) (Or.inl ⟨by rfl, ?hn3⟩) hS ?rn3
            case hn3 => intro w' hSw; obtain ⟨s0, s1, s2, s3, s4⟩ := hSw; go_simp; (try with_reducible rfl)
            (try simp only [List.getElem_toArray]); (try simp only [List.getElem_cons_succ]); (try simp only [List.getElem_cons_zero]); (try simp only [Act.put]); (try simp only [List.setIfInBounds_toArray]); (try simp only [List.set_cons_succ]); (try simp only [List.set_cons_zero])
            refine wpAnyH_take (i := 3) (v := ?vn4) rfl (by kernel_rfl) (by kernel_rfl) (by kernel_rfl) (fun _ _ _ h => h) (Or.inl ⟨by rfl, ?hn4⟩) hS ?rn4
            case hn4 => intro w' hSw; obtain ⟨s0, s1, s2, s3, s4⟩ := hSw; go_simp; (try with_reducible rfl)
            (try simp only [List.getElem_toArray]); (try simp only [List.getElem_cons_succ]); (try simp only [List.getElem_cons_zero]); (try simp only [Act.put]); (try simp only [List.setIfInBounds_toArray]); (try simp only [List.set_cons_succ]); (try simp only [List.set_cons_zero])
            refine wpAnyH_take (i := 4) (v := ?vn5) rfl (by kernel_rfl) (by kernel_rfl) (by kernel_rfl) (fun _ _ _ h => h) (Or.inl ⟨by rfl, ?hn5⟩) hS ?rn5
            case hn5 => intro w' hSw; obtain ⟨s0, s1, s2, s3, s4⟩ := hSw; go_simp; (try with_reducible rfl)
            (try simp only [List.getElem_toArray]); (try simp only [List.getElem_cons_succ]); (try simp only [List.getElem_cons_zero]); (try simp only [Act.put]); (try simp only [List.setIfInBounds_toArray]); (try simp only [List.set_cons_succ]); (try simp only [List.set_cons_zero])
            refine wpAnyH_take (i := 5) (v := ?vn6) rfl (by kernel_rfl) (by kernel_rfl) (by kernel_rfl) (fun _ _ _ h => h) (Or.inl ⟨by rfl, ?hn6⟩) hS ?rn6
            case hn6 => intro w' hSw; obtain ⟨s0, s1, s2, s3, s4⟩ := hSw; go_simp; (try with_reducible rfl)
            (try simp only [List.getElem_toArray]); (try simp only [List.getElem_cons_succ]); (try simp only [List.getElem_cons_zero]); (try simp only [Act.put]); (try simp only [List.setIfInBounds_toArray]); (try simp only [List.set_cons_succ]); (try simp only [List.set_cons_zero])
            refine wpAnyH_take (i := 6) (v := ?vn7) rfl (by kernel_rfl) (by kernel_rfl) (by kernel_rfl) (fun _ _ _ h => h) (Or.inl ⟨by rfl, ?hn7⟩) hS ?rn7
            case hn7 => intro w' hSw; obtain ⟨s0, s1, s2, s3, s4⟩ := hSw; go_simp; (try with_reducible rfl)
            (try simp only [List.getElem_toArray]); (try simp only [List.getElem_cons_succ]); (try simp only [List.getElem_cons_zero]); (try simp only [Act.put]); (try simp only [List.setIfInBounds_toArray]); (try simp only [List.set_cons_succ]); (try simp only [List.set_cons_zero])
            refine wpAnyH_take (i := 7) (v := ?vn8) rfl (by kernel_rfl) (by kernel_rfl) (by kernel_rfl) (fun _ _ _ h => h) (Or.inl ⟨by rfl, ?hn8⟩) hS ?rn8
            case hn8 => intro w' hSw; obtain ⟨s0, s1, s2, s3, s4⟩ := hSw; go_simp; (try with_reducible rfl)
            (try simp only [List.getElem_toArray]); (try simp only [List.getElem_cons_succ]); (try simp only [List.getElem_cons_zero]); (try simp only [Act.put]); (try simp only [List.setIfInBounds_toArray]); (try simp only [List.set_cons_succ]); (try simp only [List.set_cons_zero])
            refine wpAnyH_take (i := 8) (v := ?vn9) rfl (by kernel_rfl) (by kernel_rfl) (by kernel_rfl) (fun _ _ _ h => h) (Or.inl ⟨by rfl, ?hn9⟩) hS ?rn9
            case hn9 => intro w' hSw; obtain ⟨s0, s1, s2, s3, s4⟩ := hSw; go_simp; (try with_reducible rfl)
            (try simp only [List.getElem_toArray]); (try simp only [List.getElem_cons_succ]); (try simp only [List.getElem_cons_zero]); (try simp only [Act.put]); (try simp only [List.setIfInBounds_toArray]); (try simp only [List.set_cons_succ]); (try simp only [List.set_cons_zero])
            refine wpAnyH_take (i := 9) (v := ?vn10) rfl (by kernel_rfl) (by kernel_rfl) (by kernel_rfl) (fun _ _ _ h => h) (Or.inl ⟨by rfl, ?hn10⟩) hS ?rn10
            case hn10 => intro w' hSw; obtain ⟨s0, s1, s2, s3, s4⟩ := hSw; go_simp; (try with_reducible rfl)
            (try simp only [List.getElem_toArray]); (try simp only [List.getElem_cons_succ]); (try simp only [List.getElem_cons_zero]); (try simp only [Act.put]); (try simp only [List.setIfInBounds_toArray]); (try simp only [List.set_cons_succ]); (try simp only [List.set_cons_zero])
            refine wpAnyH_take (i := 10) (v := ?vn11) rfl (by kernel_rfl) (by kernel_rfl) (by kernel_rfl) (fun _ _ _ h => h) (Or.inl ⟨by rfl, ?hn11⟩) hS ?rn11
            case hn11 => intro w' hSw; obtain ⟨s0, s1, s2, s3, s4⟩ := hSw; go_simp; (try with_reducible rfl)
            (try simp only [List.getElem_toArray]); (try simp only [List.getElem_cons_succ]); (try simp only [List.getElem_cons_zero]); (try simp only [Act.put]); (try simp only [List.setIfInBounds_toArray]); (try simp only [List.set_cons_succ]); (try simp only [List.set_cons_zero])
            refine wpAnyH_take (i := 11) (v := ?vn12) rfl (by kernel_rfl) (by kernel_rfl) (by kernel_rfl) (fun _ _ _ h => h) (Or.inl ⟨by rfl, ?hn12⟩) hS ?rn12
            case hn12 => intro w' hSw; obtain ⟨s0, s1, s2, s3, s4⟩ := hSw; go_simp; (try with_reducible rfl)
            (try simp only [List.getElem_toArray]); (try simp only [List.getElem_cons_succ]); (try simp only [List.getElem_cons_zero]); (try simp only [Act.put]); (try simp only [List.setIfInBounds_toArray]); (try simp only [List.set_cons_succ]); (try simp only [List.set_cons_zero])
            refine wpAnyH_take (i := 12) (v := ?vn13) rfl (by kernel_rfl) (by kernel_rfl) (by kernel_rfl) (fun _ _ _ h => h) (Or.inl ⟨by rfl, ?hn13⟩) hS ?rn13
            case hn13 => intro w' hSw; obtain ⟨s0, s1, s2, s3, s4⟩ := hSw; go_simp; (try with_reducible rfl)
            (try simp only [List.getElem_toArray]); (try simp only [List.getElem_cons_succ]); (try simp only [List.getElem_cons_zero]); (try simp only [Act.put]); (try simp only [List.setIfInBounds_toArray]); (try simp only [List.set_cons_succ]); (try simp only [List.set_cons_zero])
            refine wpAnyH_take (i := 13) (v := ?vn14) rfl (by kernel_rfl) (by kernel_rfl) (by kernel_rfl) (fun _ _ _ h => h) (Or.inl ⟨by rfl, ?hn14⟩) hS ?rn14
            case hn14 => intro w' hSw; obtain ⟨s0, s1, s2, s3, s4⟩ := hSw; go_simp; (try with_reducible rfl)
            (try simp only [List.getElem_toArray]); (try simp only [List.getElem_cons_succ]); (try simp only [List.getElem_cons_zero]); (try simp only [Act.put]); (try simp only [List.setIfInBounds_toArray]); (try simp only [List.set_cons_succ]); (try simp only [List.set_cons_zero])
            refine wpAnyH_take (i := 14) (v := ?vn15) rfl (by kernel_rfl) (by kernel_rfl) (by kernel_rfl) (fun _ _ _ h => h) (Or.inl ⟨by rfl, ?hn15⟩) hS ?rn15
            case hn15 => intro w' hSw; obtain ⟨s0, s1, s2, s3, s4⟩ := hSw; go_simp; (try with_reducible rfl)
            (try simp only [List.getElem_toArray]); (try simp only [List.getElem_cons_succ]); (try simp only [List.getElem_cons_zero]); (try simp only [Act.put]); (try simp only [List.setIfInBounds_toArray]); (try simp only [List.set_cons_succ]); (try simp only [List.set_cons_zero])
            refine wpAnyH_take (i := 15) (v := ?vn16) rfl (by kernel_rfl) (by kernel_rfl) (by kernel_rfl) (fun _ _ _ h => h) (Or.inl ⟨by rfl, ?hn16⟩) hS ?rn16
            case hn16 => intro w' hSw; obtain ⟨s0, s1, s2, s3, s4⟩ := hSw; go_simp; (try with_reducible rfl)
            (try simp only [List.getElem_toArray]); (try simp only [List.getElem_cons_succ]); (try simp only [List.getElem_cons_zero]); (try simp only [Act.put]); (try simp only [List.setIfInBounds_toArray]); (try simp only [List.set_cons_succ]); (try simp only [List.set_cons_zero])
            skip
            refine wpAnyH_take (i := 17) (v := ?vn17) rfl (by kernel_rfl) (by kernel_rfl) (by kernel_rfl) (fun _ _ _ h => h) (Or.inl ⟨by rfl, ?hn17⟩) hS ?rn17
            case hn17 => intro w' hSw; obtain ⟨s0, s1, s2, s3, s4⟩ := hSw; go_simp; (try with_reducible rfl)
            (try simp only [List.getElem_toArray]); (try simp only [List.getElem_cons_succ]); (try simp only [List.getElem_cons_zero]); (try simp only [Act.put]); (try simp only [List.setIfInBounds_toArray]); (try simp only [List.set_cons_succ]); (try simp only [List.set_cons_zero])
            refine wpAnyH_ready (rs := [16]) (by kernel_rfl) (by simp) ?_
            refine AllReadyH.cons (o := _) rfl (fun K hK => ?_) AllReadyH.nil
            rw [if_pos (by rfl)]
            go_simp
            go_at_call 106
            refine (spec_l1Bits vv _ hv0 (by omega)).mono ?_
            rintro e w6 ⟨lv, bl, rfl, iL, hbl, hb6⟩
            obtain ⟨gl, cl, rfl, rfl, hcl, -⟩ := Own.shape iL (by rw [bitsN_length]; omega)
            unfold IntsT at iL
            rw [bitsN_length] at iL hcl ⊢
            have cL : w6.cell? ⟨gl, b, none⟩ = some (.int .i64 (halfN vv b % 2)) := (Own.cell iL b (by omega)).trans (by rw [List.getElem?_map, bitsN_get vv 8 b HB8.out]; rfl)
            have bE : Below wr.heap.size wr w6 := bD.trans (hb6.mono (Nat.le_refl _))
            clear iL hcl hbl hb6
            dsimp only
            refine hK.out _ _ (HSS.out _ (Off.ofBelow bE)) (fun hS => ?_)
            clear hK K
            (try simp only [List.getElem_toArray]); (try simp only [List.getElem_cons_succ]); (try simp only [List.getElem_cons_zero]); (try simp only [Act.put]); (try simp only [List.setIfInBounds_toArray]); (try simp only [List.set_cons_succ]); (try simp only [List.set_cons_zero])
            refine wpAnyH_take (i := 18) (v := ?vn18) rfl (by kernel_rfl) (by kernel_rfl) (by kernel_rfl) (fun _ _ _ h => h) (Or.inl ⟨by rfl, ?hn18⟩) hS ?rn18
            case hn18 => intro w' hSw; obtain ⟨s0, s1, s2, s3, s4⟩ := hSw; go_simp; (try with_reducible rfl)
            (try simp only [List.getElem_toArray]); (try simp only [List.getElem_cons_succ]); (try simp only [List.getElem_cons_zero]); (try simp only [Act.put]); (try simp only [List.setIfInBounds_toArray]); (try simp only [List.set_cons_succ]); (try simp only [List.set_cons_zero])
            refine wpAnyH_ready (rs := [19]) (by kernel_rfl) (by simp) ?_
            refine AllReadyH.cons (o := _) rfl (fun K hK => ?_) AllReadyH.nil
            rw [if_pos (by rfl)]
            go_simp
            refine hK.out _ _ (HSS.out _ (Off.ofBelow bE)) (fun hS => ?_)
            clear hK K
            (try simp only [List.getElem_toArray]); (try simp only [List.getElem_cons_succ]); (try simp only [List.getElem_cons_zero]); (try simp only [Act.put]); (try simp only [List.setIfInBounds_toArray]); (try simp only [List.set_cons_succ]); (try simp only [List.set_cons_zero])
            refine wpAnyH_take (i := 20) (v := ?vn19) rfl (by kernel_rfl) (by kernel_rfl) (by kernel_rfl) (fun _ _ _ h => h) (Or.inl ⟨by rfl, ?hn19⟩) hS ?rn19
            case hn19 => intro w' hSw; obtain ⟨s0, s1, s2, s3, s4⟩ := hSw; go_simp; (try with_reducible rfl)
            (try simp only [List.getElem_toArray]); (try simp only [List.getElem_cons_succ]); (try simp only [List.getElem_cons_zero]); (try simp only [Act.put]); (try simp only [List.setIfInBounds_toArray]); (try simp only [List.set_cons_succ]); (try simp only [List.set_cons_zero])
            have cE : w6.cell? ⟨gr, part, none⟩ = some _ := (bE.cell (p := ⟨gr, part, none⟩) lgr).trans c3
            have fE : w6.frozen? ⟨gr, part, none⟩ = false := (bE.frozen (p := ⟨gr, part, none⟩) lgr).trans f3
            refine wpAnyH_ready (rs := [21]) (by kernel_rfl) (by simp) ?_
            refine AllReadyH.cons (o := _) rfl (fun K hK => ?_) AllReadyH.nil
            rw [if_pos (by rfl)]
            go_simp
            have O7 : Off [gr] wr (w6.setCell ⟨gr, part, none⟩ (.int .i64 (halfN vv b % 2))) := (Off.ofBelow bE).setCell _ _ (.inl (by simp))
            refine hK.out _ _ (HSS.out _ O7) (fun hS => ?_)
            clear hK K
            (try simp only [List.getElem_toArray]); (try simp only [List.getElem_cons_succ]); (try simp only [List.getElem_cons_zero]); (try simp only [Act.put]); (try simp only [List.setIfInBounds_toArray]); (try simp only [List.set_cons_succ]); (try simp only [List.set_cons_zero])
            refine wpAnyH_done (by kernel_rfl) ?_ _
            clear hS
            have M7 := HSET.out w6 (fun y hy => bE.block y (HLT.out y hy))
            have N7 : MirIn (w6.setCell ⟨gr, part, none⟩ (.int .i64 (halfN vv b % 2))) gx 2 (shT F b ((i + 1) * 4)) bx := ⟨_, Z.off O7 (by simp; exact hbg), M7, HNB.out⟩
            have P7 := P.trans (O7.mono (fun y hy => by simp at hy; subst hy; exact HMR.out))
            clear cE fE cL M7 O7 Z P bE bD
            generalize w6.setCell ⟨gr, part, none⟩ (.int .i64 (halfN vv b % 2)) = w7 at *
            go_wp2
            go_roundw
            case rel => exact ⟨i + 1, HI4.out, by go_num, N7, P7⟩
            case measure => simp [intOf]; omega
        · obtain rfl : i = 4 := by omega
          rw [show shT F b (4 * 4) = shV F b from shT_all F b] at N
          obtain ⟨vx, Z, hM, nb⟩ := N
          obtain ⟨pv, cv, rfl⟩ := hM.value
          change Blk wr gx 36 #[.int .i64 2, .slice pv 4 cv] at Z
          change Mat wr (.slice pv 4 cv) (unflat (shV F b)) bx at hM
          have O5 := O4.off P (fun y hy hc => hbx2 y hc hy)
          have B5 := B4.trans (P.toBelow B4.size (fun y hy => Nat.le_of_lt (hbx3 y hy)))
          have lo5 := O5.lts
          have lM5 := hM.lt
          have hox := O5.1
          have HSM : Hid (shM F b = ⟨2, unflat (shV F b)⟩) := by show _ = _; unfold shM; rw [HFQ.out]
          clear O4 B4 P hil hi
          go_wp2_with (first | (refine wpList_load_blk rfl 36 _ rfl gx rfl Z Tryz.underlying36 rfl (by kernel_rfl) ?_) | (at_builtin; refine wpList_append_Own rfl _ _ 56 rfl 36 iM (.agg #[.int .i64 0, .slice none 0 0]) 2 32 Tryz.underlying56 hiM hzM0 hzM1 hzM2 rfl (by decide) _ _ _ [g] rfl (Own.alloc hox _) ⟨wr.heap.size, 0, none⟩ 1 1 [.int .i64 2, .slice pv 4 cv] rfl rfl ?c1 ?c2 ?c3 ?c4 ?c5 ?_))
          case c1 => exact World.news_of_block (Blk.new _ _ _)
          case c2 => intro u hu; simp only [List.mem_cons, List.not_mem_nil, or_false] at hu; rcases hu with h | h <;> (rw [h]; rfl)
          case c3 => omega
          case c4 => have := HB8.out; unfold maxLen; omega
          case c5 => have := HB8.out; omega
          intro g3 c3 w10 hO3 hoff hg3
          have O8 : PbO w w10 F (b + 1) g3 c3 (us ++ [.slice pv 4 cv]) (bi ++ [bx]) := PbO.push (O5.off (cs := []) ((Off.refl _ _).alloc (.cells #[.int .i64 2, .slice pv 4 cv] 36)) (by simp)) (by rw [HSM.out]; exact hM.alloc _) hbx2 (fun y hy => Nat.le_of_lt (hbx3 y hy)) (by have := B5.size; simp; omega) (by rw [HSM.out]; exact hO3) hoff (by simpa using hg3)
          have B8 := (B5.alloc B5.size (.cells #[.int .i64 2, .slice pv 4 cv] 36)).trans (hoff.toBelow (B5.alloc B5.size _).size (fun y hy => by simp at hy; subst hy; exact O5.2.2.2 _ (by simp)))
          clear hO3 hoff hg3 O5 B5 hox Z hM lo5 lM5
          go_wp2
          go_roundw
          case rel => exact ⟨b + 1, _, _, _, _, HB8.out, by go_num, rfl, O8, B8⟩
          case measure => simp [intOf]; omega
    · obtain rfl : b = 8 := by omega
      obtain ⟨o1, o2, o3, o4⟩ := O
      go_wp2
      go_ret
      exact ⟨_, g :: bi.flatten, rfl, ⟨us, [g], bi, by simpa using o1, o2, rfl, o3⟩, o4, B⟩
end Go.Proofs.YtepobckhfodngaoGreat
