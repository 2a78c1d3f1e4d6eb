/-
  Rows of products in the model: all pairs, until there is a quarrel.
-/
import Derived.Test.YtepobckhfodngaoGreatSpC
namespace Go.Proofs.YtepobckhfodngaoGreat
open Go.ChangeShapes Go.WideShapes Go.ChangeAt Go.RowKit
set_option linter.unusedVariables false

/-- where a row of products stands in the model, ps still to come -/
def DotSp (w wr : World) (q : Int) (xss yss : List (List (List Int))) (n b0 g : Nat) (bs bm : List Nat) (x : MNet) (m : Nat) (ps : List (Nat × Nat)) : Prop :=
  ∃ xc fc cs mc, MirIn wr g q fc bm ∧ NetIn wr b0 xc cs ∧ NetB mc xc ∧ mc + 2 * ps.length ≤ m + 12 ∧ Ok16 q fc ∧ (∀ y ∈ cs, y ∈ bs ∨ g < y) ∧ Off (b0 :: bs) w wr ∧ xc.xQuarrel.xSome = false ∧ dotGo q xss yss n ps xc fc = dotGo q xss yss n pairs6 x (sqF q xss yss n)
/-- what a row of products answers in the model -/
def DotOut (w w' : World) (e : Ending) (q : Int) (fs : List Int) (qs : Bool) (cs : List Nat) : Prop :=
  (qs = true ∧ e = .returned (.tuple #[.agg #[.int .i64 0, .slice none 0 0], .bool false])) ∨ (qs = false ∧ ∃ z bm, e = .returned (.tuple #[.agg #[.int .i64 q, z], .bool true]) ∧ Mat w' z (unflat fs) bm ∧ (∀ y ∈ bm, w.heap.size ≤ y) ∧ ∀ y ∈ bm, y ∉ cs)
set_option maxHeartbeats 4000000 in
set_option maxRecDepth 100000 in
theorem spec_l5DotO (q : Int) (v u : Value) (n : Nat) (xs ys : List MMirror) (b0 : Nat) (x : MNet) (bs : List Nat) (m : Nat) (w : World) (N : NetIn w b0 x bs) (B : NetB m x) (hm : m ≤ 199970) (hq0 : x.xQuarrel.xSome = false)
    (hv : ∀ W, Off (b0 :: bs) w W → RdMirrorS W v xs) (hu : ∀ W, Off (b0 :: bs) w W → RdMirrorS W u ys) (R : RowOk q n xs ys) (hxq : (xs.getD 0 zM).xQ = q) :
    Calls Tryz.prog 64 #[.pointer (some ⟨b0, 0, none⟩), v, u] w fun e w' => ∃ cs, DotOut w w' e q (dotS q (vsOf xs) (vsOf ys) n x) (dotX q (vsOf xs) (vsOf ys) n x).xQuarrel.xSome cs ∧ NetIn w' b0 (dotX q (vsOf xs) (vsOf ys) n x) cs ∧ (∀ y ∈ cs, y ∈ bs ∨ w.heap.size ≤ y) ∧ Off (b0 :: bs) w w' := by
  have KB := fun W (hb : Off (b0 :: bs) w W) => spec_l5Begin q v u n xs ys W (hv W hb) (hu W hb) R.lx R.ly R.hq R.hn R.sx R.sy R.bx R.by' R.ox
  have KM := fun W bM xc cs fc bm i j mc hN hB hm hM hF (hw : ∀ V, Off (b0 :: (cs ++ bm)) W V → Off (b0 :: bs) w V) hij hj nM n0 nm nd => spec_l5PairO q v u n xs ys b0 bM xc cs fc bm i j mc W hN hB hm hM hF (fun V h => hv V (hw V h)) (fun V h => hu V (hw V h)) R hij hj nM n0 nm nd
  have hvw := hv w (Off.refl _ _)
  obtain ⟨ga, oa, ca, rfl, la⟩ := hvw.shape R.lx R.hn.1
  obtain ⟨pu, cu, eu⟩ := (hu w (Off.refl _ _)).shp
  subst eu
  have c0 : w.cell? ⟨ga, oa, none⟩ = some (.int .i64 q) := by
    obtain ⟨a, cap, ev, _, hr⟩ := hvw
    simp only [Value.slice.injEq] at ev
    obtain ⟨rfl, _, rfl⟩ := ev
    have h1 := R.lx
    have h2 := R.hn
    obtain ⟨b, off, ev, _, hc⟩ := hr (by intro h; rw [h] at h1; simp at h1; omega)
    simp only [Option.some.injEq, Addr.mk.injEq, and_true] at ev
    obtain ⟨rfl, rfl⟩ := ev
    obtain ⟨_, _, h0, _⟩ := hc 0 (by omega)
    rw [hxq] at h0
    simpa using h0
  have hn0 : (0 : Int) < (n : Int) := by have := R.hn; omega
  have HQ : Hid (q = 2 ∨ q = 256) := R.hq
  generalize vsOf xs = xss at *
  generalize vsOf ys = yss at *
  have HS0 : Hid (Ok16 q (sqF q xss yss n)) := sqF_ok HQ.out xss yss n
  have HD : Hid (∀ xc fc, dotGo q xss yss n [] xc fc = dotGo q xss yss n pairs6 x (sqF q xss yss n) → dotX q xss yss n x = xc ∧ dotS q xss yss n x = fc) := fun xc fc h => by unfold dotX dotS; rw [← h]; exact ⟨rfl, rfl⟩
  have lN := N.lt
  have lNs := N.lts
  clear R hv hu hxq hvw
  have B0 : Below w.heap.size w (w.alloc (.cells #[.int .i64 0, .slice none 0 0] 36)) := (by repeat (first | exact Below.refl _ _ | refine Below.drew ?_ | refine below_drewN ?_ _ | refine Below.setCell ?_ (by first | omega | (simp; done) | (simp; omega)) _ | refine Below.alloc ?_ (by first | omega | (simp; done) | (simp; omega)) _))
  have Y0 := Blk.new w 36 #[.int .i64 0, .slice none 0 0]
  have c0b := (B0.cell (p := ⟨ga, oa, none⟩) (show ga < w.heap.size by omega)).trans c0
  clear c0
  go_enter Tryz.func64, Tryz.ntmps64
  go_wp2_with fail
  refine (KB _ (Off.ofBelow B0)).mono ?_
  rintro e w1 ⟨z, bm, rfl, hM, hbm, hb1⟩
  have Y1 := Y0.keep hb1
  have B1 := B0.trans (hb1.mono B0.size)
  have N1 := N.keep B1
  have z1 := hb1.size
  simp only [World.size_alloc] at z1 hbm
  have ltM := hM.lt
  clear Y0 B0 hb1 N KB c0b
  have Zn := Blk.new w1 36 #[.int .i64 0, .slice none 0 0]
  go_wp2_with (refine wpList_store_blk rfl 36 _ _ rfl w1.heap.size #[.int .i64 q, z] rfl rfl Zn rfl (by kernel_rfl) (by obtain ⟨a, c, rfl⟩ := hM.value; kernel_rfl) ?_; intro w2 Z2 O2)
  have O2' : Off [w1.heap.size] w1 w2 := ((Off.refl _ _).alloc _).trans O2
  have Y2 := Y1.off O2' (by simp; omega)
  have N2 := N1.off O2' (by simp; omega) (fun y hy hm => by have := lNs y hy; simp at hm; omega)
  have hM2 := hM.off O2' (fun y hy hm => by have := ltM y hy; simp at hm; omega)
  have P2 : Off (b0 :: bs) w w2 := (Off.ofBelow B1).mix O2' (fun y hy => by simp at hy; right; omega)
  have hg : w.heap.size < w1.heap.size := by omega
  have HBM : Hid (∀ y ∈ bm, w.heap.size < y ∧ y < w1.heap.size) := fun y hy => ⟨by have := hbm y hy; omega, ltM y hy⟩
  clear Zn O2 O2' Y1 N1 hM B1 z1 hbm ltM
  generalize w1.heap.size = g at *
  have D2 : DotSp w w2 q xss yss n b0 g bs bm x m (restI 0) := ⟨x, sqF q xss yss n, bs, m, ⟨z, Z2, hM2, fun h => by have := (HBM.out _ h).2; omega⟩, N2, B, by simp [restI, pairs6], HS0.out, fun y hy => .inl hy, P2, hq0, rfl⟩
  clear Z2 hM2 N2 P2
  go_wp2
  go_loopw [9] (fun a wr => ∃ i : Nat, i ≤ 4 ∧ a = .int .i64 i ∧ Blk wr w.heap.size 36 #[.int .i64 0, .slice none 0 0] ∧ DotSp w wr q xss yss n b0 g bs bm x m (restI i)) (fun a _ => 4 - (intOf a).toNat)
  case atStart => exact ⟨0, Nat.zero_le _, rfl, Y2, D2⟩
  case round =>
    clear Y2 D2
    obtain ⟨i, hi, rfl, Y, Dd⟩ := hrel
    by_cases hil : i < 4
    · have hi1 : (i : Int) < 4 := by omega
      have Ds : DotSp w wr q xss yss n b0 g bs bm x m (restS i 0) := Dd
      clear Dd
      go_wp2
      go_loopw [10] (fun a wr => ∃ s : Nat, s ≤ 3 - i ∧ a = .int .i64 ((i + 1 + s : Nat) : Int) ∧ Blk wr w.heap.size 36 #[.int .i64 0, .slice none 0 0] ∧ DotSp w wr q xss yss n b0 g bs bm x m (restS i s)) (fun a _ => 4 - (intOf a).toNat)
      case atStart => exact ⟨0, Nat.zero_le _, by congr 1, Y, Ds⟩
      case round =>
        clear Y Ds
        obtain ⟨s, hs, rfl, Y, Ds⟩ := hrel
        by_cases hsl : s < 3 - i
        · have hj4 : i + 1 + s < 4 := by omega
          rw [restS_cons hil hsl] at Ds
          obtain ⟨xc, fc, cs, mc, S, N, Bc, hmc, hF, hcs, P, HNQ, hgo⟩ := Ds
          simp only [List.length_cons] at hmc
          have HJ : Hid (i < i + 1 + s) := (show i < i + 1 + s by omega)
          have HIS : Hid (i + 1 + s = i + 1 + s) := rfl
          have zw := P.size
          have lg := S.lt
          have lcs := N.lts
          have HGO : Hid (dotGo q xss yss n ((i, i + 1 + s) :: restS i (s + 1)) xc fc = dotGo q xss yss n pairs6 x (sqF q xss yss n)) := hgo
          have HCS : Hid (∀ y ∈ cs, y ∈ bs ∨ g < y) := hcs
          have K := KM wr g xc cs fc bm i (i + 1 + s) mc N Bc (by omega) S hF (fun V h => P.mix h (fun y hy => by rcases List.mem_cons.1 hy with h | h; (exact .inl (by simp [h])); (rcases List.mem_append.1 h with h | h; (rcases hcs _ h with h | h; (exact .inl (by simp [h])); (right; omega)); (have := HBM.out _ h; right; omega)))) (by omega) hj4 (fun h => by rcases hcs _ h with h | h; (have := lNs _ h; omega); omega) (by omega) (fun h => by have := HBM.out _ h; omega) (fun y hy hc => by have := HBM.out _ hy; rcases hcs _ hc with h | h; (have := lNs _ h; omega); omega)
          have HBm := Bc.mixed q xss yss n i (i + 1 + s) hj4
          have HFm : Hid (Ok16 q (mixF q xss yss n xc fc i (i + 1 + s))) := mixF_ok HQ.out xss yss n xc hF i (i + 1 + s)
          have HMC : Hid (mc + 2 * ((restS i (s + 1)).length + 1) ≤ m + 12) := hmc
          have hj1 : ((i + 1 + s : Nat) : Int) < 4 := by omega
          have HSI : Hid (s + 1 ≤ 3 - i) := (show s + 1 ≤ 3 - i by omega)
          clear hcs hgo N Bc S hF hmc KM HIS
          generalize hjj : i + 1 + s = j at *
          have HJJ : Hid (i + 1 + s = j) := hjj
          clear hjj
          go_wp2_with fail
          refine K.mono ?_
          rintro e w9 ⟨rfl, S9, cs9, N9, hcs9, o9⟩
          clear K
          have Y9 := Y.off o9 (fun hm => by rcases List.mem_cons.1 hm with h | h; omega; (rcases List.mem_append.1 h with h | h; (rcases HCS.out _ h with h | h; (have := lNs _ h; omega); omega); (have := HBM.out _ h; omega)))
          have P9 := P.mix o9 (fun y hy => by rcases List.mem_cons.1 hy with h | h; (exact .inl (by simp [h])); (rcases List.mem_append.1 h with h | h; (rcases HCS.out _ h with h | h; (exact .inl (by simp [h])); (right; omega)); (have := HBM.out _ h; right; omega)))
          have hcs10 : ∀ y ∈ cs9, y ∈ bs ∨ g < y := fun y hy => by rcases hcs9 y hy with h | h; (exact HCS.out y h); (right; omega)
          clear Y P o9 hcs9 HCS
          cases hq : (mixX q xss yss n xc i j).xQuarrel.xSome
          · have Dn : DotSp w w9 q xss yss n b0 g bs bm x m (restS i (s + 1)) := ⟨_, _, cs9, mc + 2, S9, N9, HBm, by have := HMC.out; omega, HFm.out, hcs10, P9, hq, by rw [← dotGo_on hq]; exact HGO.out⟩
            clear S9 N9 HBm HFm hcs10 P9 HGO HMC hq
            go_wp2
            go_roundw
            case rel => exact ⟨s + 1, HSI.out, by congr 1; have := HJJ.out; omega, Y9, Dn⟩
            case measure => simp [intOf]; omega
          · have Dn : dotGo q xss yss n [] (mixX q xss yss n xc i j) (mixF q xss yss n xc fc i j) = dotGo q xss yss n pairs6 x (sqF q xss yss n) := by rw [← HGO.out, dotGo_stop hq]; rfl
            obtain ⟨hx, hf⟩ := HD.out _ _ Dn
            have HXE : Hid (dotX q xss yss n x = mixX q xss yss n xc i j) := hx
            have HQT : Hid ((mixX q xss yss n xc i j).xQuarrel.xSome = true) := hq
            clear Dn hx hf hq HGO HMC HFm HBm S9
            go_wp2_with (refine wpList_store_blk rfl 36 _ _ rfl w.heap.size #[.int .i64 0, .slice none 0 0] rfl rfl Y9 rfl (by kernel_rfl) (by kernel_rfl) ?_; intro w20 Y20 O20)
            have ya := Y20.at.1
            try go_wp2
            exact bodyPost_ret (v := .tuple #[.agg #[.int .i64 0, .slice none 0 0], .bool false]) (by simp [results, Tryz.results64, go_sem, ya]) rfl ⟨cs9, by rw [HXE.out]; exact .inl ⟨HQT.out, rfl⟩, by rw [HXE.out]; exact N9.off O20 (by simp; omega) (fun y hy hm => by simp at hm; rcases hcs10 y hy with h | h; (have := lNs _ h; omega); omega), fun y hy => by rcases hcs10 y hy with h | h; (exact .inl h); (right; omega), P9.mix O20 (fun y hy => by simp at hy; right; omega)⟩
        · obtain rfl : s = 3 - i := by omega
          rw [restS_end hil] at Ds
          have HJ4 : Hid (i + 1 + (3 - i) = 4) := (show i + 1 + (3 - i) = 4 by omega)
          rw [HJ4.out]
          go_wp2
          go_roundw
          case rel => exact ⟨i + 1, by omega, by go_num, Y, Ds⟩
          case measure => simp [intOf]; omega
    · obtain rfl : i = 4 := by omega
      rw [show restI 4 = [] from rfl] at Dd
      obtain ⟨xc, fc, cs, mc, S, N, Bc, hmc, hF, hcs, P, HNQ, hgo⟩ := Dd
      obtain ⟨hx, hf⟩ := HD.out _ _ hgo
      have HXE : Hid (dotX q xss yss n x = xc ∧ dotS q xss yss n x = fc) := ⟨hx, hf⟩
      have lcs := N.lts
      have HCS : Hid (∀ y ∈ cs, y ∈ bs ∨ g < y) := hcs
      have HLAST : Hid (xc.xQuarrel.xSome = false) := HNQ
      clear hgo hx hf hF hmc Bc hcs
      obtain ⟨z9, Z9, hM9, _⟩ := S
      obtain ⟨pz, cz, rfl⟩ := hM9.value
      go_wp2_with (first | (refine wpList_load_blk rfl 36 _ rfl g rfl Z9 Tryz.underlying36 rfl (by kernel_rfl) ?_) | (refine wpList_store_blk rfl 36 _ _ rfl w.heap.size #[.int .i64 q, .slice pz (unflat fc).length cz] rfl rfl Y rfl (by kernel_rfl) (by kernel_rfl) ?_; intro w20 Y20 O20))
      have ya := Y20.at.1
      try go_wp2
      exact bodyPost_ret (v := .tuple #[.agg #[.int .i64 q, .slice pz (unflat fc).length cz], .bool true]) (by simp [results, Tryz.results64, go_sem, ya]) rfl ⟨cs, by rw [HXE.out.1, HXE.out.2]; exact .inr ⟨HLAST.out, _, bm, rfl, hM9.off O20 (fun y hy hm => by have := HBM.out y hy; simp at hm; omega), fun y hy => by have := HBM.out y hy; omega, fun y hy hc => by have := HBM.out _ hy; rcases HCS.out _ hc with h | h; (have := lNs _ h; omega); omega⟩, by rw [HXE.out.1]; exact N.off O20 (by simp; omega) (fun y hy hm => by simp at hm; rcases HCS.out y hy with h | h; (have := lNs _ h; omega); omega), fun y hy => by rcases HCS.out y hy with h | h; (exact .inl h); (right; omega), P.mix O20 (fun y hy => by simp at hy; right; omega)⟩
theorem spec_l5Dot (q : Int) (v u : Value) (n : Nat) (xs ys : List MMirror) (b0 : Nat) (x : MNet) (bs : List Nat) (m : Nat) (w0 w : World) (N : NetIn w b0 x bs) (B : NetB m x) (hm : m ≤ 199970) (hq0 : x.xQuarrel.xSome = false)
    (hv : RdMirrorS w0 v xs) (hu : RdMirrorS w0 u ys) (hw0 : Below w0.heap.size w0 w) (R : RowOk q n xs ys) (hxq : (xs.getD 0 zM).xQ = q) (old : ∀ y ∈ b0 :: bs, w0.heap.size ≤ y) :
    Calls Tryz.prog 64 #[.pointer (some ⟨b0, 0, none⟩), v, u] w fun e w' => ∃ cs, DotOut w w' e q (dotS q (vsOf xs) (vsOf ys) n x) (dotX q (vsOf xs) (vsOf ys) n x).xQuarrel.xSome cs ∧ NetIn w' b0 (dotX q (vsOf xs) (vsOf ys) n x) cs ∧ (∀ y ∈ cs, y ∈ bs ∨ w.heap.size ≤ y) ∧ Off (b0 :: bs) w w' :=
  spec_l5DotO q v u n xs ys b0 x bs m w N B hm hq0 (fun W h => hv.below (hw0.trans (h.toBelow hw0.size old))) (fun W h => hu.below (hw0.trans (h.toBelow hw0.size old))) R hxq
end Go.Proofs.YtepobckhfodngaoGreat
