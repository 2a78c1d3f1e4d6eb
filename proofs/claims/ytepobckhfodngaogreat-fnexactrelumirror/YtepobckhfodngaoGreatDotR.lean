/-
  Rows of products in the program: one pair of parts.
-/
import Derived.Test.YtepobckhfodngaoGreatDotM
import Derived.Test.YtepobckhfodngaoGreatDotQ
namespace Go.Proofs.YtepobckhfodngaoGreat
open Go.ChangeShapes Go.WideShapes Go.ChangeAt Go.RowKit
set_option linter.unusedVariables false

theorem RdVs.alloc {w : World} {g n : Nat} {vss : List (List (List Int))} (h : RdVs w g n vss) (o : Obj) : RdVs (w.alloc o) g n vss := h.below ((Below.refl _ _).alloc (Nat.le_refl _) _)
theorem RdVs.drew {w : World} {g n : Nat} {vss : List (List (List Int))} (h : RdVs w g n vss) : RdVs w.drew g n vss := h.below (Below.refl _ _).drew
theorem index3_0 (x y z : Value) (w : World) : (Instr.index 194 (.agg #[x, y, z]) (.int .i64 0)).run Tryz.prog w = .ok x w := by kernel_rfl
theorem index3_1 (x y z : Value) (w : World) : (Instr.index 194 (.agg #[x, y, z]) (.int .i64 1)).run Tryz.prog w = .ok y w := by kernel_rfl
theorem index3_2 (x y z : Value) (w : World) : (Instr.index 194 (.agg #[x, y, z]) (.int .i64 2)).run Tryz.prog w = .ok z w := by kernel_rfl
def put3 (q : Int) (fs : List Int) (a b c j : Nat) (y : Int) : Nat → List Int
  | 0 => fs
  | 1 => putF q fs a j y
  | 2 => putF q (putF q fs a j y) b j y
  | _ => putF q (putF q (putF q fs a j y) b j y) c j y
set_option maxHeartbeats 16000000 in
set_option maxRecDepth 100000 in
theorem impl_mix (q : Int) (gx cx gy cy n : Nat) (xss yss : List (List (List Int))) (b0 bS : Nat) (x : MNet) (bs : List Nat) (fs : List Int) (i j m : Nat) (w : World) (N : NetIn w b0 x bs) (B : NetB m x) (hm : m ≤ 199990) (S : Blk w bS 85 (cells1 fs)) (hF : Ok16 q fs)
    (X : RdVs w gx n xss) (Y : RdVs w gy n yss) (hq : q = 2 ∨ q = 256) (hn : n ≤ 6) (bx : BdT q xss) (by' : BdT q yss) (hij : i < j) (hj : j < 4) (nS : bS ∉ bs) (n0 : bS ≠ b0) (ngx : gx ∉ b0 :: bS :: bs) (ngy : gy ∉ b0 :: bS :: bs) :
    Calls Tryz.prog 143 #[.agg #[.int .i64 q, .slice (some ⟨gx, 0, none⟩) n cx, .slice (some ⟨gy, 0, none⟩) n cy], .pointer (some ⟨b0, 0, none⟩), .pointer (some ⟨bS, 0, none⟩), .int .i64 i, .int .i64 j] w fun e w' => e = .returned (.tuple #[]) ∧ Blk w' bS 85 (cells1 (mixF q xss yss n x fs i j)) ∧ ∃ cs, NetIn w' b0 (mixX q xss yss n x i j) cs ∧ (∀ y ∈ cs, y ∈ bs ∨ w.heap.size ≤ y) ∧ Off (b0 :: bS :: bs) w w' := by
  obtain ⟨e1, e2, hkl, hl4, hki, hkj, hli, hlj, h3⟩ := kl_of i j hij hj
  have h2 := two_of i j hij hj
  have HFX : Hid (mixX q xss yss n x i j = sentN (tookN x j) q (kOf i j : Nat) (lOf i j : Nat) j (mixK q xss yss n x (kOf i j) i j) (mixK q xss yss n x (lOf i j) i j)) := by show _ = _; unfold mixX; rw [e1, e2]
  have HFF : Hid (mixF q xss yss n x fs i j = putF q (putF q (putF q (put3 q fs i (kOf i j) (lOf i j) j (wordQ q x j) 3) (kOf i j) i (mixK q xss yss n x (kOf i j) i j)) (lOf i j) i (mixK q xss yss n x (lOf i j) i j)) j i (uT (tookN x j) q (kOf i j : Nat) (mixK q xss yss n x (kOf i j) i j))) := by show _ = _; unfold mixF mixU; rw [e1]; rfl
  have KO := fun W => impl_OthersOf i j W
  rw [othersR_yes h2, e1, e2] at KO
  rw [e1, e2] at h3
  have bw := wordQ_bd hq x j
  have ba := mixK_bd hq xss yss n x (kOf i j) i j
  have bb := mixK_bd hq xss yss n x (lOf i j) i j
  have ca0 : 0 ≤ crN xss yss (kOf i j) i j n % q := Int.emod_nonneg _ (by omega)
  have ca1 : crN xss yss (kOf i j) i j n % q < q := Int.emod_lt_of_pos _ (by omega)
  have cb0 : 0 ≤ crN xss yss (lOf i j) i j n % q := Int.emod_nonneg _ (by omega)
  have cb1 : crN xss yss (lOf i j) i j n % q < q := Int.emod_lt_of_pos _ (by omega)
  have bu : 0 ≤ uT (tookN x j) q (kOf i j : Nat) (mixK q xss yss n x (kOf i j) i j) ∧ uT (tookN x j) q (kOf i j : Nat) (mixK q xss yss n x (kOf i j) i j) < q := by unfold uT tellV; split; (exact ⟨Int.emod_nonneg _ (by omega), Int.emod_lt_of_pos _ (by omega)⟩); exact ba
  have HKA : Hid ((crN xss yss (kOf i j) i j n % q - wordQ q x j) % q = mixK q xss yss n x (kOf i j) i j) := rfl
  have HKB : Hid ((crN xss yss (lOf i j) i j n % q - wordQ q x j) % q = mixK q xss yss n x (lOf i j) i j) := rfl
  have KA := fun W hX hY => impl_cross q gx cx gy cy n xss yss (kOf i j) i j W hX hY hq bx by' (by omega) (by omega) hj hn
  have KB := fun W hX hY => impl_cross q gx cx gy cy n xss yss (lOf i j) i j W hX hY hq bx by' (by omega) (by omega) hj hn
  have KT := fun W hN => impl_take_net b0 x bs j q m W hN B (by omega) hj hq
  have KS := fun W cs hN => impl_tell_net b0 (tookN x j) cs q (kOf i j : Nat) (lOf i j : Nat) j (mixK q xss yss n x (kOf i j) i j) (mixK q xss yss n x (lOf i j) i j) (m + 1) W hN (B.took j hj) (by omega) hq h3 hj ba bb
  have HQ : Hid (q = 2 ∨ q = 256) := hq
  have hi4 : i < 4 := by omega
  have hk4 : kOf i j < 4 := by omega
  generalize crN xss yss (kOf i j) i j n % q = crA at *
  generalize crN xss yss (lOf i j) i j n % q = crB at *
  generalize wordQ q x j = wd at *
  generalize mixK q xss yss n x (kOf i j) i j = A at *
  generalize mixK q xss yss n x (lOf i j) i j = Bb at *
  generalize uT (tookN x j) q (kOf i j : Nat) A = U at *
  generalize kOf i j = k at *
  generalize lOf i j = l at *
  have HF : Hid (Ok16 q fs) := hF
  have HNX : Hid (gx ∉ b0 :: bS :: bs) := ngx
  have HNY : Hid (gy ∉ b0 :: bS :: bs) := ngy
  clear e1 e2 h2 h3 hF hq bx by' B ngx ngy hki hkj hli hlj hkl
  have lN := N.lt
  have lNs := N.lts
  have lS := S.lt
  have nN := N.nin
  have lX := X.1
  have lY := Y.1
  have R1 := Blk.new w 163 #[.int .i64 q, .slice (some ⟨gx, 0, none⟩) n cx, .slice (some ⟨gy, 0, none⟩) n cy]
  have N1 := N.alloc (.cells #[.int .i64 q, .slice (some ⟨gx, 0, none⟩) n cx, .slice (some ⟨gy, 0, none⟩) n cy] 163)
  have S1 := S.alloc (.cells #[.int .i64 q, .slice (some ⟨gx, 0, none⟩) n cx, .slice (some ⟨gy, 0, none⟩) n cy] 163)
  have X1 := X.alloc (.cells #[.int .i64 q, .slice (some ⟨gx, 0, none⟩) n cx, .slice (some ⟨gy, 0, none⟩) n cy] 163)
  have Y1 := Y.alloc (.cells #[.int .i64 q, .slice (some ⟨gx, 0, none⟩) n cx, .slice (some ⟨gy, 0, none⟩) n cy] 163)
  have P1 : Off (b0 :: bS :: bs) w (w.alloc (.cells #[.int .i64 q, .slice (some ⟨gx, 0, none⟩) n cx, .slice (some ⟨gy, 0, none⟩) n cy] 163)) := (Off.refl _ _).alloc _
  clear N S X Y
  go_enter Tryz.func143, Tryz.ntmps143
  go_wp2_with fail
  refine (KO _).mono ?_
  rintro e w2 ⟨u, rfl, hu, hb2⟩
  unfold RdPairResult at hu
  subst hu
  have R2 := R1.keep hb2
  have N2 := N1.keep hb2
  have S2 := S1.keep hb2
  have X2 := X1.below hb2
  have Y2 := Y1.below hb2
  have P2 := P1.trans (Off.ofBelow hb2)
  have z2 := hb2.size
  simp only [World.size_alloc] at z2
  clear R1 N1 S1 X1 Y1 P1 hb2 KO
  have En := Blk.new w2 190 #[.int .i64 0, .int .i64 0, .int .i64 0]
  go_wp2_with (refine wpList_store_blk rfl 190 _ _ rfl w2.heap.size #[.int .i64 0, .int .i64 k, .int .i64 l] rfl rfl En rfl (by kernel_rfl) (by kernel_rfl) ?_; intro w3 E3 O3)
  have O3' : Off [w2.heap.size] w2 w3 := ((Off.refl _ _).alloc _).trans O3
  have z3 := O3'.size
  have R3 := R2.off O3' (by simp; omega)
  have N3 := N2.off O3' (by simp; omega) (fun y hy hm => by have := lNs y hy; simp at hm; omega)
  have S3 := S2.off O3' (by simp; omega)
  have X3 := X2.off O3' (by simp; omega)
  have Y3 := Y2.off O3' (by simp; omega)
  have P3 := P2.later O3' (fun y hy => by simp at hy; omega)
  clear R2 N2 S2 X2 Y2 P2 O3 O3' En
  have hS : ∀ o, w3.drew.cell? ⟨w2.heap.size, o, none⟩ = (#[.int .i64 0, .int .i64 k, .int .i64 l] : Array Value)[o]? := E3.drew.at.1
  go_region_held3 (fun V => (∀ o, V.cell? ⟨w2.heap.size, o, none⟩ = (#[.int .i64 0, .int .i64 k, .int .i64 l] : Array Value)[o]?)) (exact hS) (fail)
  have R4 := R3.drew
  have N4 := N3.drew
  have S4 := S3.drew
  have X4 := X3.drew
  have Y4 := Y3.drew
  have P4 := P3.drew
  have z4 : w.heap.size < w3.drew.heap.size := by simp; omega
  clear R3 N3 S3 X3 Y3 P3 hS E3 z3 z2
  generalize w3.drew = w4 at *
  have ra := R4.at.1
  go_wp2_with fail
  clear ra
  refine (KT _ N4).mono ?_
  rintro e w5 ⟨rfl, N5, o5⟩
  have R5 := R4.off o5 (fun hm => Nat.lt_irrefl _ (lNs _ hm))
  have S5 := S4.off o5 nS
  have X5 := X4.off o5 (fun hm => HNX.out (by simp [hm]))
  have Y5 := Y4.off o5 (fun hm => HNY.out (by simp [hm]))
  have P5 := P4.trans (o5.mono (fun y hy => by simp [hy]))
  have z5 := o5.size
  clear R4 N4 S4 X4 Y4 P4 o5 KT
  have Rd := R5.drew
  have Nd := N5.drew
  have Sd := S5.drew
  have Xd := X5.drew
  have Yd := Y5.drew
  have Pd := P5.drew
  have hS := Rd.at.1
  clear R5 N5 S5 X5 Y5 P5
  have fd := field_1
  go_wp2_with fail
  have tk0 : True := trivial
  go_region_held3 (fun V => (∀ o, V.cell? ⟨w.heap.size, o, none⟩ = (#[.int .i64 q, .slice (some ⟨gx, 0, none⟩) n cx, .slice (some ⟨gy, 0, none⟩) n cy] : Array Value)[o]?)) (first | exact hS | exact hS1 | exact hS2) (first | (go_at_call 154; have _t := tk0; clear _t tk0; refine (KA _ Xd Yd).mono ?_; rintro e w6 ⟨rfl, hb6⟩; have R6 := Rd.keep hb6; have hS1 := R6.at.1) | (go_at_call 123; refine (impl_SubRing_yes q crA wd _ ⟨HQ.out, by omega, by omega, bw.1, bw.2⟩).mono ?_; rintro e w7 ⟨rfl, hb7⟩; have R7 := R6.keep hb7; have hS2 := R7.at.1))
  have hbb := hb6.trans (hb7.mono hb6.size)
  have N7 := Nd.keep hbb
  have S7 := Sd.keep hbb
  have X7 := Xd.below hbb
  have Y7 := Yd.below hbb
  have P7 := Pd.trans (Off.ofBelow hbb)
  have z7 := hbb.size
  simp only [World.size_drew] at z7
  skip
  clear Rd Nd Sd Xd Yd Pd hS hS1 hS2 R6 hb6 hb7 hbb KA
  have Rd := R7.drew
  have Nd := N7.drew
  have Sd := S7.drew
  have Xd := X7.drew
  have Yd := Y7.drew
  have Pd := P7.drew
  have hS := Rd.at.1
  clear R7 N7 S7 X7 Y7 P7
  have fd := field_1
  go_wp2_with fail
  have tk0 : True := trivial
  go_region_held3 (fun V => (∀ o, V.cell? ⟨w.heap.size, o, none⟩ = (#[.int .i64 q, .slice (some ⟨gx, 0, none⟩) n cx, .slice (some ⟨gy, 0, none⟩) n cy] : Array Value)[o]?)) (first | exact hS | exact hS1 | exact hS2) (first | (go_at_call 154; have _t := tk0; clear _t tk0; refine (KB _ Xd Yd).mono ?_; rintro e w8 ⟨rfl, hb8⟩; have R8 := Rd.keep hb8; have hS1 := R8.at.1) | (go_at_call 123; refine (impl_SubRing_yes q crB wd _ ⟨HQ.out, by omega, by omega, bw.1, bw.2⟩).mono ?_; rintro e w9 ⟨rfl, hb9⟩; have R9 := R8.keep hb9; have hS2 := R9.at.1))
  have hbb := hb8.trans (hb9.mono hb8.size)
  have N9 := Nd.keep hbb
  have S9 := Sd.keep hbb
  have X9 := Xd.below hbb
  have Y9 := Yd.below hbb
  have P9 := Pd.trans (Off.ofBelow hbb)
  have z9 := hbb.size
  simp only [World.size_drew] at z9
  skip
  clear Rd Nd Sd Xd Yd Pd hS hS1 hS2 R8 hb8 hb9 hbb KB
  simp only [HKA.out, HKB.out]
  clear X9 Y9 HKA HKB ca0 ca1 cb0 cb1 fd
  have ra := R9.at.1
  go_wp2_with fail
  clear ra
  refine (KS _ _ N9).mono ?_
  rintro e w10 ⟨rfl, cs, N10, hcs, o10⟩
  have z10 := o10.size
  have R10 := R9.off o10 (fun hm => by rcases List.mem_cons.1 hm with h | h; omega; (have := lNs _ h; omega))
  have S10 := S9.off o10 (fun hm => by rcases List.mem_cons.1 hm with h | h; (exact n0 h); (exact nS h))
  have P10 := P9.trans (o10.mono (fun y hy => by rcases List.mem_cons.1 hy with h | h; (simp [h]); (simp [h])))
  have hcs2 : ∀ y ∈ cs, y ∈ bs ∨ w.heap.size ≤ y := fun y hy => by rcases hcs y hy with h | h; (exact .inl h); (right; omega)
  rw [← HFX.out] at N10
  clear N9 R9 S9 P9 o10 hcs KS HFX
  have nc : bS ∉ cs := fun hm => by rcases hcs2 _ hm with h | h; (exact nS h); omega
  have nb : bS ≠ b0 := n0
  generalize hx9 : mixX q xss yss n x i j = x9 at *
  have HX9 : Hid (mixX q xss yss n x i j = x9) := hx9
  clear hx9
  have ra := R10.at.1
  go_wp2
  clear ra
  go_loopw [64] (fun z wr => ∃ t : Nat, t ≤ 3 ∧ z = .int .i64 t ∧ Blk wr w.heap.size 163 #[.int .i64 q, .slice (some ⟨gx, 0, none⟩) n cx, .slice (some ⟨gy, 0, none⟩) n cy] ∧ Blk wr bS 85 (cells1 (put3 q fs i k l j wd t)) ∧ NetIn wr b0 x9 cs ∧ Off (b0 :: bS :: bs) w wr) (fun z _ => 3 - (intOf z).toNat)
  case atStart => exact ⟨0, Nat.zero_le _, rfl, R10, S10, N10, P10⟩
  case round =>
    clear R10 S10 N10 P10
    obtain ⟨t, ht, rfl, R, S, N, P⟩ := hrel
    have i0 := index3_0
    have i1 := index3_1
    have i2 := index3_2
    have ra := R.at.1
    by_cases h0 : t = 0
    · subst h0
      go_wp2_with fail
      clear ra
      refine (impl_put q bS _ i j wd _ S (by exact HF.out) HQ.out (by omega) hj bw).mono ?_
      rintro e w11 ⟨rfl, S11, o11⟩
      have R11 := R.off o11 (by simp; omega)
      have N11 := N.off o11 (by simp; exact fun h => nb h.symm) (fun y hy hm => by simp at hm; exact nc (hm ▸ hy))
      have P11 := P.trans (o11.mono (by simp))
      clear R S N P o11
      go_wp2
      go_roundw
      case rel => exact ⟨1, by omega, by go_num, R11, S11, N11, P11⟩
      case measure => simp [intOf]
    by_cases h1 : t = 1
    · subst h1
      go_wp2_with fail
      clear ra
      refine (impl_put q bS _ k j wd _ S (by exact (HF.out.put HQ.out _ _ _)) HQ.out (by omega) hj bw).mono ?_
      rintro e w11 ⟨rfl, S11, o11⟩
      have R11 := R.off o11 (by simp; omega)
      have N11 := N.off o11 (by simp; exact fun h => nb h.symm) (fun y hy hm => by simp at hm; exact nc (hm ▸ hy))
      have P11 := P.trans (o11.mono (by simp))
      clear R S N P o11
      go_wp2
      go_roundw
      case rel => exact ⟨2, by omega, by go_num, R11, S11, N11, P11⟩
      case measure => simp [intOf]
    by_cases h2 : t = 2
    · subst h2
      go_wp2_with fail
      clear ra
      refine (impl_put q bS _ l j wd _ S (by exact ((HF.out.put HQ.out _ _ _).put HQ.out _ _ _)) HQ.out (by omega) hj bw).mono ?_
      rintro e w11 ⟨rfl, S11, o11⟩
      have R11 := R.off o11 (by simp; omega)
      have N11 := N.off o11 (by simp; exact fun h => nb h.symm) (fun y hy hm => by simp at hm; exact nc (hm ▸ hy))
      have P11 := P.trans (o11.mono (by simp))
      clear R S N P o11
      go_wp2
      go_roundw
      case rel => exact ⟨3, by omega, by go_num, R11, S11, N11, P11⟩
      case measure => simp [intOf]
    obtain rfl : t = 3 := by omega
    clear i0 i1 i2 h0 h1 h2
    have HF3 : Hid (Ok16 q (put3 q fs i k l j wd 3)) := ((HF.out.put HQ.out _ _ _).put HQ.out _ _ _).put HQ.out _ _ _
    generalize put3 q fs i k l j wd 3 = f3 at *
    go_wp2_with fail
    clear ra
    refine (impl_put q bS _ k i A _ S (by exact HF3.out) HQ.out (by omega) (by omega) ba).mono ?_
    rintro e w12 ⟨rfl, S12, o12⟩
    have R12 := R.off o12 (by simp; omega)
    have N12 := N.off o12 (by simp; exact fun h => nb h.symm) (fun y hy hm => by simp at hm; exact nc (hm ▸ hy))
    have P12 := P.trans (o12.mono (by simp))
    clear R S N P o12
    have ra := R12.at.1
    go_wp2_with fail
    clear ra
    refine (impl_put q bS _ l i Bb _ S12 (by exact (HF3.out.put HQ.out _ _ _)) HQ.out (by omega) (by omega) bb).mono ?_
    rintro e w13 ⟨rfl, S13, o13⟩
    have R13 := R12.off o13 (by simp; omega)
    have N13 := N12.off o13 (by simp; exact fun h => nb h.symm) (fun y hy hm => by simp at hm; exact nc (hm ▸ hy))
    have P13 := P12.trans (o13.mono (by simp))
    clear R12 S12 N12 P12 o13
    have ra := R13.at.1
    go_wp2_with fail
    clear ra
    refine (impl_put q bS _ j i U _ S13 (by exact ((HF3.out.put HQ.out _ _ _).put HQ.out _ _ _)) HQ.out (by omega) (by omega) bu).mono ?_
    rintro e w14 ⟨rfl, S14, o14⟩
    have R14 := R13.off o14 (by simp; omega)
    have N14 := N13.off o14 (by simp; exact fun h => nb h.symm) (fun y hy hm => by simp at hm; exact nc (hm ▸ hy))
    have P14 := P13.trans (o14.mono (by simp))
    clear R13 S13 N13 P13 o14
    go_wp2
    first | go_end0 | refine bodyPost_ret (results_none rfl _ _ _) rfl ?_
    exact ⟨rfl, by rw [HFF.out]; exact S14, cs, by rw [HX9.out]; exact N14, hcs2, P14⟩
end Go.Proofs.YtepobckhfodngaoGreat
