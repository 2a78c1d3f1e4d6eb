/-
  Rows of products in the model: one pair of parts.
-/
import Derived.Test.YtepobckhfodngaoGreatSpB
import Derived.Test.YtepobckhfodngaoGreatDotM
import Derived.Test.YtepobckhfodngaoGreatDotS
namespace Go.Proofs.YtepobckhfodngaoGreat
open Go.ChangeShapes Go.WideShapes Go.ChangeAt Go.RowKit
set_option linter.unusedVariables false

/-- what is asked of the mirrors of a row -/
structure RowOk (q : Int) (n : Nat) (xs ys : List MMirror) : Prop where
  lx : xs.length = n
  ly : ys.length = n
  hq : q = 2 ∨ q = 256
  hn : 1 ≤ n ∧ n ≤ 6
  sx : ∀ t, t < n → Sq ((vsOf xs).getD t [])
  sy : ∀ t, t < n → Sq ((vsOf ys).getD t [])
  bx : BdT q (vsOf xs)
  by' : BdT q (vsOf ys)
  ox : OwnT (vsOf xs)
set_option maxHeartbeats 8000000 in
set_option maxRecDepth 100000 in
theorem spec_l5PairO (q : Int) (v u : Value) (n : Nat) (xs ys : List MMirror) (b0 bM : Nat) (x : MNet) (bs : List Nat) (fs : List Int) (bm : List Nat) (i j m : Nat) (w : World) (N : NetIn w b0 x bs) (B : NetB m x) (hm : m ≤ 199990) (M : MirIn w bM q fs bm) (hF : Ok16 q fs)
    (hv : ∀ W, Off (b0 :: (bs ++ bm)) w W → RdMirrorS W v xs) (hu : ∀ W, Off (b0 :: (bs ++ bm)) w W → RdMirrorS W u ys) (R : RowOk q n xs ys) (hij : i < j) (hj : j < 4) (nM : bM ∉ bs) (n0 : b0 ≠ bM) (nm : b0 ∉ bm) (nd : ∀ y ∈ bm, y ∉ bs) :
    Calls Tryz.prog 89 #[.pointer (some ⟨b0, 0, none⟩), .pointer (some ⟨bM, 0, none⟩), v, u, .int .i64 i, .int .i64 j] w fun e w' => e = .returned (.bool (!(mixX q (vsOf xs) (vsOf ys) n x i j).xQuarrel.xSome)) ∧ MirIn w' bM q (mixF q (vsOf xs) (vsOf ys) n x fs i j) bm ∧ ∃ cs, NetIn w' b0 (mixX q (vsOf xs) (vsOf ys) n x i j) cs ∧ (∀ y ∈ cs, y ∈ bs ∨ w.heap.size ≤ y) ∧ Off (b0 :: (bs ++ bm)) w w' := by
  have hq := R.hq
  obtain ⟨e1, e2, hkl, hl4, hki, hkj, hli, hlj, h3⟩ := kl_of i j hij hj
  have h2 := two_of i j hij hj
  have KA := fun W (hb : Off (b0 :: (bs ++ bm)) w W) => spec_l5Cross q v u n xs ys (kOf i j) i j W (hv W hb) (hu W hb) R.lx R.ly R.hq R.hn R.sx R.sy R.bx R.by' (by omega) (by omega) hj
  have KB := fun W (hb : Off (b0 :: (bs ++ bm)) w W) => spec_l5Cross q v u n xs ys (lOf i j) i j W (hv W hb) (hu W hb) R.lx R.ly R.hq R.hn R.sx R.sy R.bx R.by' (by omega) (by omega) hj
  obtain ⟨pv, cv, ev⟩ := (hv w (Off.refl _ _)).shp
  obtain ⟨pu, cu, eu⟩ := (hu w (Off.refl _ _)).shp
  subst ev
  subst eu
  generalize vsOf xs = xss at *
  generalize vsOf ys = yss at *
  have HFX : Hid (mixX q xss yss n x i j = sentN (tookN x j) q (kOf i j : Nat) (lOf i j : Nat) j (mixK q xss yss n x (kOf i j) i j) (mixK q xss yss n x (lOf i j) i j)) := by show _ = _; unfold mixX; rw [e1, e2]
  have HFF : Hid (mixF q xss yss n x fs i j = putF q (putF q (putF q (putF q (putF q (putF q fs i j (wordQ q x j)) (kOf i j) j (wordQ q x j)) (lOf i j) j (wordQ q x j)) (kOf i j) i (mixK q xss yss n x (kOf i j) i j)) (lOf i j) i (mixK q xss yss n x (lOf i j) i j)) j i (uT (tookN x j) q (kOf i j : Nat) (mixK q xss yss n x (kOf i j) i j))) := by show _ = _; unfold mixF mixU; rw [e1]
  have KO := fun W => spec_l5Others i j W h2
  rw [e1, e2] at KO
  rw [e1, e2] at h3
  have bw := wordQ_bd hq x j
  have ba := mixK_bd hq xss yss n x (kOf i j) i j
  have bb := mixK_bd hq xss yss n x (lOf i j) i j
  have ca0 : 0 ≤ crN xss yss (kOf i j) i j n % q := Int.emod_nonneg _ (by omega)
  have ca1 : crN xss yss (kOf i j) i j n % q < q := Int.emod_lt_of_pos _ (by omega)
  have cb0 : 0 ≤ crN xss yss (lOf i j) i j n % q := Int.emod_nonneg _ (by omega)
  have cb1 : crN xss yss (lOf i j) i j n % q < q := Int.emod_lt_of_pos _ (by omega)
  have bu : 0 ≤ uT (tookN x j) q (kOf i j : Nat) (mixK q xss yss n x (kOf i j) i j) ∧ uT (tookN x j) q (kOf i j : Nat) (mixK q xss yss n x (kOf i j) i j) < q := by unfold uT tellV; split; (exact ⟨Int.emod_nonneg _ (by omega), Int.emod_lt_of_pos _ (by omega)⟩); exact ba
  have HKA : Hid ((crN xss yss (kOf i j) i j n % q - wordQ q x j) % q = mixK q xss yss n x (kOf i j) i j) := rfl
  have HKB : Hid ((crN xss yss (lOf i j) i j n % q - wordQ q x j) % q = mixK q xss yss n x (lOf i j) i j) := rfl
  have KT := fun W hN => spec_l4Take_net b0 x bs j q m W hN B (by omega) hj hq
  have KS := fun W cs hN => spec_l4Joint_net b0 (tookN x j) cs q (kOf i j : Nat) (lOf i j : Nat) j (mixK q xss yss n x (kOf i j) i j) (mixK q xss yss n x (lOf i j) i j) (m + 1) W hN (B.took j hj) (by omega) hq h3 hj ba bb
  have HQ : Hid (q = 2 ∨ q = 256) := hq
  have q1 : 1 ≤ q := by omega
  have q2 : q ≤ 256 := by omega
  have hi4 : i < 4 := by omega
  have hk4 : kOf i j < 4 := by omega
  generalize crN xss yss (kOf i j) i j n % q = crA at *
  generalize crN xss yss (lOf i j) i j n % q = crB at *
  generalize wordQ q x j = wd at *
  generalize mixK q xss yss n x (kOf i j) i j = A at *
  generalize mixK q xss yss n x (lOf i j) i j = Bb at *
  generalize uT (tookN x j) q (kOf i j : Nat) A = U at *
  generalize kOf i j = k at *
  generalize lOf i j = l at *
  have wa : IntKind.i64.wrap (crA - wd) = crA - wd := by rw [IntKind.wrap_i64]; omega
  have wb : IntKind.i64.wrap (crB - wd) = crB - wd := by rw [IntKind.wrap_i64]; omega
  have HF : Hid (Ok16 q fs) := hF
  clear e1 e2 h2 h3 hF hq R B hv hu hki hkj hli hlj hkl
  have lN := N.lt
  have lNs := N.lts
  have lM := M.lt
  have lMs := M.lts
  have nN := N.nin
  have P0 : Off (b0 :: (bs ++ bm)) w w := Off.refl _ _
  go_enter Tryz.func89, Tryz.ntmps89
  go_wp2_with fail
  refine (KO _).mono ?_
  rintro e w1 ⟨rfl, rfl⟩
  clear KO
  have mq := M.q0
  go_wp2_with fail
  clear mq
  refine (KT _ N).mono ?_
  rintro e w5 ⟨rfl, N5, o5⟩
  have M5 := M.off o5 nM nd
  have P5 := P0.trans (o5.mono (fun y hy => by simp [hy]))
  clear M N P0 o5 KT
  have Md := M5.keep (Below.refl _ _).drew
  have Nd := N5.drew
  have Pd := P5.drew
  have hS := Md.q0
  clear M5 N5 P5
  go_wp2_with fail
  have tk0 : True := trivial
  go_region_held3 (fun V => V.cell? ⟨bM, 0, none⟩ = some (.int .i64 q)) (first | exact hS | exact hS1 | exact hS2) (first | (go_at_call 110; have _t := tk0; clear _t tk0; refine (KA _ Pd).mono ?_; rintro e w6 ⟨rfl, hc6⟩; have M6 := Md.keep hc6; have hS1 := M6.q0) | (go_at_call 90; refine (spec_l1Mod q (crA - wd) _ q1 q2).mono ?_; rintro e w7 ⟨rfl, rfl⟩; have hS2 := hS1))
  have N6 := Nd.keep hc6
  have P6 := Pd.trans (Off.ofBelow hc6)
  clear Md Nd Pd hS hS1 hS2 hc6 KA
  have Md := M6.keep (Below.refl _ _).drew
  have Nd := N6.drew
  have Pd := P6.drew
  have hS := Md.q0
  clear M6 N6 P6
  go_wp2_with fail
  have tk0 : True := trivial
  go_region_held3 (fun V => V.cell? ⟨bM, 0, none⟩ = some (.int .i64 q)) (first | exact hS | exact hS1 | exact hS2) (first | (go_at_call 110; have _t := tk0; clear _t tk0; refine (KB _ Pd).mono ?_; rintro e w8 ⟨rfl, hc8⟩; have M8 := Md.keep hc8; have hS1 := M8.q0) | (go_at_call 90; refine (spec_l1Mod q (crB - wd) _ q1 q2).mono ?_; rintro e w9 ⟨rfl, rfl⟩; have hS2 := hS1))
  have N8 := Nd.keep hc8
  have P8 := Pd.trans (Off.ofBelow hc8)
  clear Md Nd Pd hS hS1 hS2 hc8 KB
  simp only [HKA.out, HKB.out]
  clear HKA HKB ca0 ca1 cb0 cb1 wa wb
  have mq := M8.q0
  go_wp2_with fail
  clear mq
  refine (KS _ _ N8).mono ?_
  rintro e w10 ⟨rfl, cs, N10, hcs, o10⟩
  have z8 := P8.size
  have M10 := M8.off o10 (fun hm => by rcases List.mem_cons.1 hm with h | h; (exact n0 h.symm); (exact nM h)) (fun y hy hm => by rcases List.mem_cons.1 hm with h | h; (exact nm (h ▸ hy)); (exact nd y hy h))
  have P10 := P8.trans (o10.mono (fun y hy => by rcases List.mem_cons.1 hy with h | h; (simp [h]); (simp [h])))
  have hcs2 : ∀ y ∈ cs, y ∈ bs ∨ w.heap.size ≤ y := fun y hy => by rcases hcs y hy with h | h; (exact .inl h); (right; omega)
  rw [← HFX.out] at N10
  clear N8 M8 P8 o10 hcs KS HFX
  have nc0 : ∀ y ∈ cs, y ∉ bm := fun y hy hm => by rcases hcs2 _ hy with h | h; (exact nd y hm h); (have := lMs y hm; omega)
  generalize hx9 : mixX q xss yss n x i j = x9 at *
  have HX9 : Hid (mixX q xss yss n x i j = x9) := hx9
  clear hx9
  go_wp2_with fail
  refine (spec_l5Put q bM _ bm i j wd _ M10 (by exact HF.out) HQ.out (by omega) (by omega) bw).mono ?_
  rintro e w11 ⟨rfl, M11, o11⟩
  have N11 := N10.off o11 nm (fun y hy => nc0 y hy)
  have P11 := P10.trans (o11.mono (fun y hy => by simp [hy]))
  clear M10 N10 P10 o11
  go_wp2_with fail
  refine (spec_l5Put q bM _ bm k j wd _ M11 (by exact (HF.out.put HQ.out _ _ _)) HQ.out (by omega) (by omega) bw).mono ?_
  rintro e w12 ⟨rfl, M12, o12⟩
  have N12 := N11.off o12 nm (fun y hy => nc0 y hy)
  have P12 := P11.trans (o12.mono (fun y hy => by simp [hy]))
  clear M11 N11 P11 o12
  go_wp2_with fail
  refine (spec_l5Put q bM _ bm l j wd _ M12 (by exact ((HF.out.put HQ.out _ _ _).put HQ.out _ _ _)) HQ.out (by omega) (by omega) bw).mono ?_
  rintro e w13 ⟨rfl, M13, o13⟩
  have N13 := N12.off o13 nm (fun y hy => nc0 y hy)
  have P13 := P12.trans (o13.mono (fun y hy => by simp [hy]))
  clear M12 N12 P12 o13
  go_wp2_with fail
  refine (spec_l5Put q bM _ bm k i A _ M13 (by exact (((HF.out.put HQ.out _ _ _).put HQ.out _ _ _).put HQ.out _ _ _)) HQ.out (by omega) (by omega) ba).mono ?_
  rintro e w14 ⟨rfl, M14, o14⟩
  have N14 := N13.off o14 nm (fun y hy => nc0 y hy)
  have P14 := P13.trans (o14.mono (fun y hy => by simp [hy]))
  clear M13 N13 P13 o14
  go_wp2_with fail
  refine (spec_l5Put q bM _ bm l i Bb _ M14 (by exact ((((HF.out.put HQ.out _ _ _).put HQ.out _ _ _).put HQ.out _ _ _).put HQ.out _ _ _)) HQ.out (by omega) (by omega) bb).mono ?_
  rintro e w15 ⟨rfl, M15, o15⟩
  have N15 := N14.off o15 nm (fun y hy => nc0 y hy)
  have P15 := P14.trans (o15.mono (fun y hy => by simp [hy]))
  clear M14 N14 P14 o15
  go_wp2_with fail
  refine (spec_l5Put q bM _ bm j i U _ M15 (by exact (((((HF.out.put HQ.out _ _ _).put HQ.out _ _ _).put HQ.out _ _ _).put HQ.out _ _ _).put HQ.out _ _ _)) HQ.out (by omega) (by omega) bu).mono ?_
  rintro e w16 ⟨rfl, M16, o16⟩
  have N16 := N15.off o16 nm (fun y hy => nc0 y hy)
  have P16 := P15.trans (o16.mono (fun y hy => by simp [hy]))
  clear M15 N15 P15 o16
  have c8 := N16.some8
  generalize hqs : x9.xQuarrel.xSome = qs at *
  have HQS : Hid (x9.xQuarrel.xSome = qs) := hqs
  clear hqs
  go_wp2
  go_ret
  exact ⟨by rw [HX9.out, HQS.out]; rfl, by rw [HFF.out]; exact M16, cs, by rw [HX9.out]; exact N16, hcs2, P16⟩
end Go.Proofs.YtepobckhfodngaoGreat
