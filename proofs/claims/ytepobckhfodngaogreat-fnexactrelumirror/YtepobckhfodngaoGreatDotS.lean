/-
  Rows of products in the program: all pairs, until there is a quarrel.
-/
import Derived.Test.YtepobckhfodngaoGreatDotR
import Derived.Test.YtepobckhfodngaoGreatBld
import Derived.Deep.LoopGhost
namespace Go.Proofs.YtepobckhfodngaoGreat
open Go.ChangeShapes Go.WideShapes Go.ChangeAt Go.RowKit
set_option linter.unusedVariables false

theorem Off.mix {bs cs : List Nat} {w w1 w2 : World} (h : Off bs w w1) (k : Off cs w1 w2) (hc : ∀ y ∈ cs, y ∈ bs ∨ w.heap.size ≤ y) : Off bs w w2 :=
  ⟨k.os.trans h.os, k.tape.trans h.tape, k.output.trans h.output, Nat.le_trans h.size k.size, fun i hi hn => (k.block i (Nat.lt_of_lt_of_le hi h.size) (fun hm => by rcases hc i hm with h' | h'; (exact hn h'); omega)).trans (h.block i hi hn)⟩
/-- the pairs that are still to come: of i, behind s of them -/
def restI : Nat → List (Nat × Nat)
  | 0 => pairs6
  | 1 => [(1, 2), (1, 3), (2, 3)]
  | 2 => [(2, 3)]
  | _ => []
def restS (i s : Nat) : List (Nat × Nat) := (restI i).drop s
theorem restS_cons {i s : Nat} (hi : i < 4) (hs : s < 3 - i) : restS i s = (i, i + 1 + s) :: restS i (s + 1) := by
  obtain rfl | rfl | rfl : i = 0 ∨ i = 1 ∨ i = 2 := by omega
  · obtain rfl | rfl | rfl : s = 0 ∨ s = 1 ∨ s = 2 := by omega
    all_goals rfl
  · obtain rfl | rfl : s = 0 ∨ s = 1 := by omega
    all_goals rfl
  · obtain rfl : s = 0 := by omega
    rfl
theorem restS_end {i : Nat} (hi : i < 4) : restS i (3 - i) = restI (i + 1) := by
  obtain rfl | rfl | rfl | rfl : i = 0 ∨ i = 1 ∨ i = 2 ∨ i = 3 := by omega
  all_goals rfl
/-- where a row of products stands, ps still to come -/
def DotSt (w wr : World) (q : Int) (xss yss : List (List (List Int))) (n b0 g : Nat) (bs : List Nat) (x : MNet) (m : Nat) (ps : List (Nat × Nat)) : Prop :=
  ∃ xc fc cs mc, Blk wr g 85 (cells1 fc) ∧ NetIn wr b0 xc cs ∧ NetB mc xc ∧ mc + 2 * ps.length ≤ m + 12 ∧ Ok16 q fc ∧ (∀ y ∈ cs, y ∈ bs ∨ g < y) ∧ Off (b0 :: bs) w wr ∧ dotGo q xss yss n ps xc fc = dotGo q xss yss n pairs6 x (sqF q xss yss n)
theorem DotSt.keep {w wr wr' : World} {q : Int} {xss yss : List (List (List Int))} {n b0 g : Nat} {bs : List Nat} {x : MNet} {m : Nat} {ps : List (Nat × Nat)} (h : DotSt w wr q xss yss n b0 g bs x m ps) (hb : Below wr.heap.size wr wr') : DotSt w wr' q xss yss n b0 g bs x m ps := by
  obtain ⟨xc, fc, cs, mc, h1, h2, h3, h4, h5, h6, h8, h9⟩ := h
  exact ⟨xc, fc, cs, mc, h1.keep hb, h2.keep hb, h3, h4, h5, h6, h8.trans (Off.ofBelow hb), h9⟩
set_option maxHeartbeats 2000000 in
set_option maxRecDepth 100000 in
theorem impl_dot (q : Int) (gx cx gy cy n : Nat) (xss yss : List (List (List Int))) (b0 : Nat) (x : MNet) (bs : List Nat) (m : Nat) (w : World) (N : NetIn w b0 x bs) (B : NetB m x) (hm : m ≤ 199970)
    (X : RdVs w gx n xss) (Y : RdVs w gy n yss) (hq : q = 2 ∨ q = 256) (hn : n ≤ 6) (bx : BdT q xss) (by' : BdT q yss) (ngx : gx ∉ b0 :: bs) (ngy : gy ∉ b0 :: bs) :
    Calls Tryz.prog 124 #[.agg #[.int .i64 q, .slice (some ⟨gx, 0, none⟩) n cx, .slice (some ⟨gy, 0, none⟩) n cy], .pointer (some ⟨b0, 0, none⟩)] w fun e w' => e = .returned (.agg (cells1 (q :: dotS q xss yss n x))) ∧ ∃ cs, NetIn w' b0 (dotX q xss yss n x) cs ∧ (∀ y ∈ cs, y ∈ bs ∨ w.heap.size ≤ y) ∧ Off (b0 :: bs) w w' := by
  have HX : Hid (RdVs w gx n xss) := X
  have HY : Hid (RdVs w gy n yss) := Y
  have HNX : Hid (gx ∉ b0 :: bs) := ngx
  have HNY : Hid (gy ∉ b0 :: bs) := ngy
  have lgx := X.1
  have lgy := Y.1
  have lN := N.lt
  have lNs := N.lts
  have nN := N.nin
  have HBX : Hid (BdT q xss) := bx
  have HBY : Hid (BdT q yss) := by'
  have HQ : Hid (q = 2 ∨ q = 256) := hq
  have KQ := fun W hX hY => impl_squares q gx cx gy cy n xss yss W hX hY hq hn bx by'
  have KM := fun W b1 xc cs fc i j mc hN hB hm hS hF hX hY hij hj nS n0 nx ny => impl_mix q gx cx gy cy n xss yss b0 b1 xc cs fc i j mc W hN hB hm hS hF hX hY hq hn bx by' hij hj nS n0 nx ny
  have HD : Hid (∀ xc fc, dotGo q xss yss n [] xc fc = dotGo q xss yss n pairs6 x (sqF q xss yss n) → dotX q xss yss n x = xc ∧ dotS q xss yss n x = fc) := fun xc fc h => by unfold dotX dotS; rw [← h]; exact ⟨rfl, rfl⟩
  have HS0 : Hid (Ok16 q (sqF q xss yss n)) := sqF_ok hq xss yss n
  have B0 : Below w.heap.size w ((w.alloc (.cells #[.int .i64 q, .slice (some ⟨gx, 0, none⟩) n cx, .slice (some ⟨gy, 0, none⟩) n cy] 163)).alloc (.cells #[.int .i64 0, .int .i64 0, .int .i64 0, .int .i64 0, .int .i64 0, .int .i64 0, .int .i64 0, .int .i64 0, .int .i64 0, .int .i64 0, .int .i64 0, .int .i64 0, .int .i64 0, .int .i64 0, .int .i64 0, .int .i64 0, .int .i64 0] 87)) := (by repeat (first | exact Below.refl _ _ | refine Below.drew ?_ | refine below_drewN ?_ _ | refine Below.setCell ?_ (by first | omega | (simp; done) | (simp; omega)) _ | refine Below.alloc ?_ (by first | omega | (simp; done) | (simp; omega)) _))
  have R0 : Blk ((w.alloc (.cells #[.int .i64 q, .slice (some ⟨gx, 0, none⟩) n cx, .slice (some ⟨gy, 0, none⟩) n cy] 163)).alloc (.cells #[.int .i64 0, .int .i64 0, .int .i64 0, .int .i64 0, .int .i64 0, .int .i64 0, .int .i64 0, .int .i64 0, .int .i64 0, .int .i64 0, .int .i64 0, .int .i64 0, .int .i64 0, .int .i64 0, .int .i64 0, .int .i64 0, .int .i64 0] 87)) w.heap.size 163 #[.int .i64 q, .slice (some ⟨gx, 0, none⟩) n cx, .slice (some ⟨gy, 0, none⟩) n cy] := (Blk.new w _ _).alloc _
  have Z0 : Blk ((w.alloc (.cells #[.int .i64 q, .slice (some ⟨gx, 0, none⟩) n cx, .slice (some ⟨gy, 0, none⟩) n cy] 163)).alloc (.cells #[.int .i64 0, .int .i64 0, .int .i64 0, .int .i64 0, .int .i64 0, .int .i64 0, .int .i64 0, .int .i64 0, .int .i64 0, .int .i64 0, .int .i64 0, .int .i64 0, .int .i64 0, .int .i64 0, .int .i64 0, .int .i64 0, .int .i64 0] 87)) (w.heap.size + 1) 87 #[.int .i64 0, .int .i64 0, .int .i64 0, .int .i64 0, .int .i64 0, .int .i64 0, .int .i64 0, .int .i64 0, .int .i64 0, .int .i64 0, .int .i64 0, .int .i64 0, .int .i64 0, .int .i64 0, .int .i64 0, .int .i64 0, .int .i64 0] := by simpa using Blk.new (w.alloc (.cells #[.int .i64 q, .slice (some ⟨gx, 0, none⟩) n cx, .slice (some ⟨gy, 0, none⟩) n cy] 163)) 87 #[.int .i64 0, .int .i64 0, .int .i64 0, .int .i64 0, .int .i64 0, .int .i64 0, .int .i64 0, .int .i64 0, .int .i64 0, .int .i64 0, .int .i64 0, .int .i64 0, .int .i64 0, .int .i64 0, .int .i64 0, .int .i64 0, .int .i64 0]
  clear X Y bx by' ngx ngy hq
  go_enter Tryz.func124, Tryz.ntmps124
  go_wp2
  go_step3
  go_wp2_with (refine wpList_load_blk rfl 163 _ rfl w.heap.size rfl R0 Tryz.underlying163 rfl (by kernel_rfl) ?_)
  refine (KQ _ (HX.out.below B0) (HY.out.below B0)).mono ?_
  rintro e w1 ⟨rfl, hb1⟩
  have R1 := R0.keep hb1
  have Z1 := Z0.keep hb1
  have B1 := B0.trans (hb1.mono B0.size)
  have N1 := N.keep B1
  have z1 := hb1.size
  simp only [World.size_alloc] at z1
  clear R0 Z0 B0 hb1 N KQ
  have HFL : Hid ((sqF q xss yss n).length = 16) := HS0.out.1
  have Sn := Blk.new w1 85 #[.int .i64 0, .int .i64 0, .int .i64 0, .int .i64 0, .int .i64 0, .int .i64 0, .int .i64 0, .int .i64 0, .int .i64 0, .int .i64 0, .int .i64 0, .int .i64 0, .int .i64 0, .int .i64 0, .int .i64 0, .int .i64 0]
  go_wp2_with (refine wpList_store_blk rfl 85 _ _ rfl w1.heap.size (cells1 (sqF q xss yss n)) rfl rfl Sn (by rw [cells1_size, HFL.out]; rfl) (by rw [cells1_size, HFL.out]; kernel_rfl) (cells1_one _) ?_; intro w2 S2 O2)
  have O2' : Off [w1.heap.size] w1 w2 := ((Off.refl _ _).alloc _).trans O2
  have R2 := R1.off O2' (by simp; omega)
  have Z2 := Z1.off O2' (by simp; omega)
  have N2 := N1.off O2' (by simp; omega) (fun y hy hm => by have := lNs y hy; simp at hm; omega)
  have P2 : Off (b0 :: bs) w w2 := (Off.ofBelow B1).mix O2' (fun y hy => by simp at hy; right; omega)
  have hg : w.heap.size + 1 < w1.heap.size := by omega
  clear Sn O2 O2' R1 Z1 N1 B1 z1
  generalize w1.heap.size = g at *
  have D2 : DotSt w w2 q xss yss n b0 g bs x m pairs6 := ⟨x, sqF q xss yss n, bs, m, S2, N2, B, by simp [pairs6], HS0.out, fun y hy => .inl hy, P2, rfl⟩
  clear S2 N2 P2
  go_step3
  go_wp2
  go_loopw [10] (fun z wr => ∃ i : Nat, i ≤ 4 ∧ z = .int .i64 i ∧ Blk wr w.heap.size 163 #[.int .i64 q, .slice (some ⟨gx, 0, none⟩) n cx, .slice (some ⟨gy, 0, none⟩) n cy] ∧ Blk wr (w.heap.size + 1) 87 #[.int .i64 0, .int .i64 0, .int .i64 0, .int .i64 0, .int .i64 0, .int .i64 0, .int .i64 0, .int .i64 0, .int .i64 0, .int .i64 0, .int .i64 0, .int .i64 0, .int .i64 0, .int .i64 0, .int .i64 0, .int .i64 0, .int .i64 0] ∧ DotSt w wr q xss yss n b0 g bs x m (restI i)) (fun z _ => 4 - (intOf z).toNat)
  case atStart => exact ⟨0, Nat.zero_le _, rfl, R2, Z2, D2⟩
  case round =>
    clear R2 Z2 D2
    obtain ⟨i, hi, rfl, R, Z, Dd⟩ := hrel
    by_cases hil : i < 4
    · have hi1 : (i : Int) < 4 := by omega
      have Ds : DotSt w wr q xss yss n b0 g bs x m (restS i 0) := Dd
      clear Dd
      go_wp2
      go_loopw [15] (fun z wr => ∃ s : Nat, s ≤ 3 - i ∧ z = .int .i64 s ∧ Blk wr w.heap.size 163 #[.int .i64 q, .slice (some ⟨gx, 0, none⟩) n cx, .slice (some ⟨gy, 0, none⟩) n cy] ∧ Blk wr (w.heap.size + 1) 87 #[.int .i64 0, .int .i64 0, .int .i64 0, .int .i64 0, .int .i64 0, .int .i64 0, .int .i64 0, .int .i64 0, .int .i64 0, .int .i64 0, .int .i64 0, .int .i64 0, .int .i64 0, .int .i64 0, .int .i64 0, .int .i64 0, .int .i64 0] ∧ DotSt w wr q xss yss n b0 g bs x m (restS i s)) (fun z _ => 3 - i - (intOf z).toNat)
      case atStart => exact ⟨0, Nat.zero_le _, rfl, R, Z, Ds⟩
      case round =>
        clear R Z Ds
        obtain ⟨s, hs, rfl, R, Z, Ds⟩ := hrel
        by_cases hsl : s < 3 - i
        · have hs1 : (s : Int) < 3 - (i : Int) := by omega
          rw [restS_cons hil hsl] at Ds
          obtain ⟨xc, fc, cs, mc, S, N, Bc, hmc, hF, hcs, P, hgo⟩ := Ds
          simp only [List.length_cons] at hmc
          have zw := P.size
          have lR := R.lt
          have lg := S.lt
          have lcs := N.lts
          have nx : gx ∉ b0 :: g :: cs := fun hm => by rcases List.mem_cons.1 hm with h | h; (exact HNX.out (by simp [h])); (rcases List.mem_cons.1 h with h | h; omega; (rcases hcs _ h with h | h; (exact HNX.out (by simp [h])); omega))
          have ny : gy ∉ b0 :: g :: cs := fun hm => by rcases List.mem_cons.1 hm with h | h; (exact HNY.out (by simp [h])); (rcases List.mem_cons.1 h with h | h; omega; (rcases hcs _ h with h | h; (exact HNY.out (by simp [h])); omega))
          have nc : g ∉ cs := fun h => by rcases hcs _ h with h | h; (have := lNs _ h; omega); omega
          have HGO : Hid (dotGo q xss yss n ((i, i + 1 + s) :: restS i (s + 1)) xc fc = dotGo q xss yss n pairs6 x (sqF q xss yss n)) := hgo
          have HCS : Hid (∀ y ∈ cs, y ∈ bs ∨ g < y) := hcs
          have hj4 : i + 1 + s < 4 := by omega
          have K := KM wr g xc cs fc i (i + 1 + s) mc N Bc (by omega) S hF (HX.out.off P HNX.out) (HY.out.off P HNY.out) (by omega) hj4 nc (by omega) nx ny
          rw [show ((i + 1 + s : Nat) : Int) = (i : Int) + 1 + (s : Int) by omega] at K
          have HBm := Bc.mixed q xss yss n i (i + 1 + s) hj4
          have HFm : Hid (Ok16 q (mixF q xss yss n xc fc i (i + 1 + s))) := mixF_ok HQ.out xss yss n xc hF i (i + 1 + s)
          have HMC : Hid (mc + 2 * ((restS i (s + 1)).length + 1) ≤ m + 12) := hmc
          clear hcs hgo N Bc S hF hmc nx ny HX HY KM
          go_wp2_with (refine wpList_load_blk rfl 163 _ rfl w.heap.size rfl R Tryz.underlying163 rfl (by kernel_rfl) ?_)
          refine K.mono ?_
          rintro e w9 ⟨rfl, S9, cs9, N9, hcs9, o9⟩
          clear K
          have nr : w.heap.size ∉ b0 :: g :: cs := fun hm => by rcases List.mem_cons.1 hm with h | h; omega; (rcases List.mem_cons.1 h with h | h; omega; (rcases HCS.out _ h with h | h; (have := lNs _ h; omega); omega))
          have nz : w.heap.size + 1 ∉ b0 :: g :: cs := fun hm => by rcases List.mem_cons.1 hm with h | h; omega; (rcases List.mem_cons.1 h with h | h; omega; (rcases HCS.out _ h with h | h; (have := lNs _ h; omega); omega))
          have R9 := R.off o9 nr
          have Z9 := Z.off o9 nz
          have P9 := P.mix o9 (fun y hy => by rcases List.mem_cons.1 hy with h | h; (exact .inl (by simp [h])); (rcases List.mem_cons.1 h with h | h; (right; omega); (rcases HCS.out _ h with h | h; (exact .inl (by simp [h])); (right; omega))))
          have hcs10 : ∀ y ∈ cs9, y ∈ bs ∨ g < y := fun y hy => by rcases hcs9 y hy with h | h; (exact HCS.out y h); (right; omega)
          have c8 := N9.some8
          have l9 := N9.lt
          clear R Z P o9 nr nz hcs9 nc HCS
          cases hq : (mixX q xss yss n xc i (i + 1 + s)).xQuarrel.xSome
          · rw [hq] at c8
            have Dn : DotSt w w9 q xss yss n b0 g bs x m (restS i (s + 1)) := ⟨_, _, cs9, mc + 2, S9, N9, HBm, by have := HMC.out; omega, HFm.out, hcs10, P9, by rw [← dotGo_on hq]; exact HGO.out⟩
            clear S9 N9 HBm HFm hcs10 P9 HGO HMC hq
            go_wp2
            go_roundw
            case rel => exact ⟨s + 1, by omega, by go_num, R9, Z9, Dn⟩
            case measure => simp [intOf]; omega
          · rw [hq] at c8
            have Dn : DotSt w w9 q xss yss n b0 g bs x m [] := ⟨_, _, cs9, mc + 2, S9, N9, HBm, by have := HMC.out; simp only [List.length_nil]; omega, HFm.out, hcs10, P9, by rw [← HGO.out, dotGo_stop hq]; rfl⟩
            clear S9 N9 HBm HFm hcs10 P9 HGO HMC hq
            obtain ⟨xc, fc, cs, mc, S, N, Bc, hmc, hF, hcs, P, hgo⟩ := Dn
            obtain ⟨hx, hf⟩ := HD.out _ _ hgo
            have HXE : Hid (dotX q xss yss n x = xc ∧ dotS q xss yss n x = fc) := ⟨hx, hf⟩
            have HL : Hid (fc.length = 16) := hF.1; have HL1 : Hid ((q :: fc).length = 17) := by show _ = _; rw [List.length_cons, hF.1]
            have lcs := N.lts
            have nzc : w.heap.size + 1 ∉ cs := fun h => by rcases hcs _ h with h | h; (have := lNs _ h; omega); omega
            have HCS2 : Hid (∀ y ∈ cs, y ∈ bs ∨ g < y) := hcs
            clear hgo hx hf hF hmc Bc hcs
            have rat := R9.at.1
            go_wp2_with (first | (refine wpList_load_blk rfl 85 _ rfl g rfl S Tryz.underlying85 rfl (by rw [cells1_size, HL.out]; kernel_rfl) ?_) | (refine wpList_build rfl 87 _ rfl #[(0, .int .i64 q), (1, .agg (cells1 fc))] (by kernel_rfl) (.agg (cells1 (q :: fc))) (share_fold2 q HL.out _) ?_) | (refine wpList_store_blk rfl 87 _ _ rfl (w.heap.size + 1) (cells1 (q :: fc)) rfl rfl Z9 (by rw [cells1_size, HL1.out]; rfl) (by rw [cells1_size, HL1.out]; kernel_rfl) (cells1_one _) ?_; intro w20 Z20 O20))
            try rw [Exit.noGoto_ret]
            exact bodyPost_ret (v := .agg (cells1 (q :: fc))) (results_blk Tryz.results124 rfl Z20 Tryz.underlying87 rfl (by rw [cells1_size, HL1.out]; kernel_rfl)) rfl ⟨by rw [HXE.out.2], cs, by rw [HXE.out.1]; exact N.off O20 (by simp; omega) (fun y hy hm => by simp at hm; exact nzc (hm ▸ hy)), fun y hy => by rcases HCS2.out y hy with h | h; (exact .inl h); (right; omega), P.mix O20 (fun y hy => by simp at hy; right; omega)⟩
        · obtain rfl : s = 3 - i := by omega
          rw [restS_end hil] at Ds
          have hs1 : decide (((3 - i : Nat) : Int) < 3 - (i : Int)) = false := by simp; omega
          go_wp2
          go_roundw
          case rel => exact ⟨i + 1, by omega, by go_num, R, Z, Ds⟩
          case measure => simp [intOf]; omega
    · obtain rfl : i = 4 := by omega
      rw [show restI 4 = [] from rfl] at Dd
      have Dn := Dd
      clear Dd
      obtain ⟨xc, fc, cs, mc, S, N, Bc, hmc, hF, hcs, P, hgo⟩ := Dn
      obtain ⟨hx, hf⟩ := HD.out _ _ hgo
      have HXE : Hid (dotX q xss yss n x = xc ∧ dotS q xss yss n x = fc) := ⟨hx, hf⟩
      have HL : Hid (fc.length = 16) := hF.1; have HL1 : Hid ((q :: fc).length = 17) := by show _ = _; rw [List.length_cons, hF.1]
      have lcs := N.lts
      have nzc : w.heap.size + 1 ∉ cs := fun h => by rcases hcs _ h with h | h; (have := lNs _ h; omega); omega
      have HCS2 : Hid (∀ y ∈ cs, y ∈ bs ∨ g < y) := hcs
      clear hgo hx hf hF hmc Bc hcs
      have rat := R.at.1
      go_wp2_with (first | (refine wpList_load_blk rfl 85 _ rfl g rfl S Tryz.underlying85 rfl (by rw [cells1_size, HL.out]; kernel_rfl) ?_) | (refine wpList_build rfl 87 _ rfl #[(0, .int .i64 q), (1, .agg (cells1 fc))] (by kernel_rfl) (.agg (cells1 (q :: fc))) (share_fold2 q HL.out _) ?_) | (refine wpList_store_blk rfl 87 _ _ rfl (w.heap.size + 1) (cells1 (q :: fc)) rfl rfl Z (by rw [cells1_size, HL1.out]; rfl) (by rw [cells1_size, HL1.out]; kernel_rfl) (cells1_one _) ?_; intro w20 Z20 O20))
      try rw [Exit.noGoto_ret]
      exact bodyPost_ret (v := .agg (cells1 (q :: fc))) (results_blk Tryz.results124 rfl Z20 Tryz.underlying87 rfl (by rw [cells1_size, HL1.out]; kernel_rfl)) rfl ⟨by rw [HXE.out.2], cs, by rw [HXE.out.1]; exact N.off O20 (by simp; omega) (fun y hy hm => by simp at hm; exact nzc (hm ▸ hy)), fun y hy => by rcases HCS2.out y hy with h | h; (exact .inl h); (right; omega), P.mix O20 (fun y hy => by simp at hy; right; omega)⟩
end Go.Proofs.YtepobckhfodngaoGreat
