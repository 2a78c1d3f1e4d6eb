/-
  Contract of chapter 6's model: OpenMirror.
-/
import Derived.Test.YtcnbkdpmcohlgamOpn2
import Derived.Test.YtcnbkdpmcohlgamPrtS
import Derived.Test.YtcnbkdpmcohlgamApp
import Derived.Test.YtcnbkdpmcohlgamMatT
import Derived.Deep.RegionWith
namespace Go.Proofs.Ytcnbkdpmcohlgam
open Go.ChangeShapes Go.WideShapes Go.ChangeAt Go.RowKit
set_option linter.unusedVariables false
theorem opS_bd {s : Int} {xs : List Int} {q : Int} (hs : 0 ≤ s ∧ s < q) (hx : ∀ j, 0 ≤ xs.getD j 0 ∧ xs.getD j 0 < q) : ∀ k : Nat, 0 ≤ opS s xs k ∧ opS s xs k ≤ q * (k + 1)
  | 0 => by simp [opS]; omega
  | k + 1 => by
    have := opS_bd hs hx k
    have h := hx k
    have e : q * (((k + 1 : Nat) : Int) + 1) = q * ((k : Int) + 1) + q := by rw [Int.natCast_add, Int.mul_add q _ 1]; simp
    rw [opS, e]
    omega
set_option maxHeartbeats 8000000 in
set_option maxRecDepth 100000 in
theorem spec_OpenMirror (v : Value) (x : MMirror) (who by' : Int) (w : World) (hv : RdMirror w v x) :
    Calls Try.prog 8 #[v, .int .i64 who, .int .i64 by'] w fun e w' => ∃ u bs, e = .returned u ∧ OwOpenResult w' u (openR x.xQ x.xViews who by') bs ∧ (∀ y ∈ bs, w.heap.size ≤ y) ∧ Below w.heap.size w w' := by
  obtain ⟨i1, gi, gz0, gz1, gz2⟩ := info_parts Try.infoI
  obtain ⟨q, xss⟩ := x
  obtain ⟨p, c, rfl, hvv⟩ := hv
  dsimp only at hvv ⊢
  obtain ⟨W0, eW0⟩ : ∃ W0, W0 = (w.alloc (.cells #[.int .i64 q, .slice p xss.length c] 30)).alloc (.cells #[.int .i64 0, .slice none 0 0] 28) := ⟨_, rfl⟩
  have B0 : Below w.heap.size w W0 := by rw [eW0]; exact (by repeat (first | exact Below.refl _ _ | refine Below.drew ?_ | refine below_drewN ?_ _ | refine Below.setCell ?_ (by first | omega | (simp; done) | (simp; omega)) _ | refine Below.alloc ?_ (by first | omega | (simp; done) | (simp; omega)) _))
  have Y0 : Blk W0 w.heap.size 30 #[.int .i64 q, .slice p xss.length c] := by rw [eW0]; exact (Blk.new w _ _).alloc _
  have R0 : Blk W0 (w.heap.size + 1) 28 #[.int .i64 0, .slice none 0 0] := by
    rw [eW0]
    have := Blk.new (w.alloc (.cells #[.int .i64 q, .slice p xss.length c] 30)) 28 #[.int .i64 0, .slice none 0 0]
    simpa using this
  have V0 : ReadsM W0 (.slice p xss.length c) xss := hvv.below B0
  have KF := spec_l3Fault _ q _ xss W0 Y0 V0
  have HVV : Hid (∀ V, Below w.heap.size w V → ReadsM V (.slice p xss.length c) xss) := fun V h => hvv.below h
  clear hvv
  by_cases h0 : mirC q xss = 0
  · rw [h0] at KF
    have KL := fun V => spec_l6Liar who by' V
    by_cases hl : isLieB who by' = true
    · rw [hl] at KL
      obtain ⟨hq, h4, hr, hx, -⟩ := mirC_zero h0
      have hl' := isLieB_ok hl
      have KP := fun n V k1 k2 hn => spec_l6Part w.heap.size q (.slice p xss.length c) xss n who by' V k1 k2 h0 hn hl'.2
      have HR1 : Hid (openOk q xss who by' → openR q xss who by' = ⟨0, openL q xss who by'⟩) := fun h => openR_ok h0 hl h
      have HR2 : Hid (¬ openOk q xss who by' → openR q xss who by' = ⟨4, []⟩) := fun h => openR_none h0 hl h
      have HO : Hid (openOk q xss who by' ↔ ∀ k, k < 4 → (partM q xss k who by').1 = 0) := Iff.rfl
      have HLL : Hid (openL q xss who by' = (List.range 4).map (fun n => openV q xss n who by')) := rfl
      have HOV : Hid (∀ n, openV q xss n who by' = opS (partM q xss n who by').2 (xss.getD n []) 4 % q) := fun _ => rfl
      have HMB : Hid (∀ n, n < 4 → (partM q xss n who by').1 = 0 → 0 ≤ (partM q xss n who by').2 ∧ (partM q xss n who by').2 < q) := fun n hn h => partM_bd hn hq (fun k _ => hx k n) h
      have HX : Hid (∀ i j, 0 ≤ (xss.getD i []).getD j 0 ∧ (xss.getD i []).getD j 0 < q) := hx
      have HL4 : Hid (xss.length = 4) := h4
      have HR4 : Hid (∀ j, j < 4 → (xss.getD j []).length = 4) := hr
      have hq1 : 1 ≤ q := by rcases hq with h | h <;> omega
      have hq2 : q ≤ 256 := by rcases hq with h | h <;> omega
      generalize openR q xss who by' = RR at *
      generalize openOk q xss who by' = OK at *
      generalize openL q xss who by' = LL at *
      obtain ⟨ov, hov⟩ : ∃ ov : Nat → Int, ∀ n, openV q xss n who by' = ov n := ⟨_, fun _ => rfl⟩
      simp only [hov] at HLL HOV
      obtain ⟨M, hM⟩ : ∃ M : Nat → Int × Int, ∀ n, partM q xss n who by' = M n := ⟨_, fun _ => rfl⟩
      simp only [hM] at KP HO HOV HMB
      clear hl hl' hx hr h4 h0 hq hov hM
      go_enter Try.func8, Try.ntmps8
      go_wp2_with fail
      rw [← eW0]
      clear eW0
      refine KF.mono ?_
      rintro e w1 ⟨rfl, hb1⟩
      replace Y0 := Y0.keep hb1
      replace R0 := R0.keep hb1
      replace V0 := V0.below hb1
      replace B0 := B0.trans (hb1.mono B0.size)
      clear KF hb1
      go_wp2_with fail
      refine (KL _).mono ?_
      rintro e w' ⟨rfl, rfl⟩
      clear KL
      go_wp2_with fail
      have O0 := Blk.new w1 28 #[.int .i64 0, .slice none 0 0]
      have hb2 : Below w1.heap.size w1 (w1.alloc (.cells #[.int .i64 0, .slice none 0 0] 28)) := (Below.refl _ _).alloc (Nat.le_refl _) _
      have hob : w.heap.size + 1 < w1.heap.size := R0.lt
      replace Y0 := Y0.keep hb2
      replace R0 := R0.keep hb2
      replace V0 := V0.below hb2
      replace B0 := B0.trans (hb2.mono B0.size)
      clear hb2
      have I0 : IntsT (w1.alloc (.cells #[.int .i64 0, .slice none 0 0] 28)) (.slice none 0 0) [] [] := ⟨rfl, .inl ⟨rfl, rfl, rfl⟩⟩
      generalize w1.alloc (.cells #[.int .i64 0, .slice none 0 0] 28) = w2 at *
      generalize w1.heap.size = ob at *
      go_loopw [9] (fun c' wr => ∃ n : Nat, ∃ bs : List Nat, ∃ sv : Value, n ≤ 4 ∧ c' = .int .i64 n ∧ (∀ k, k < n → (M k).1 = 0) ∧ IntsT wr sv ((List.range n).map ov) bs ∧ (∀ y ∈ bs, ob < y) ∧ Blk wr w.heap.size 30 #[.int .i64 q, .slice p xss.length c] ∧ Blk wr (w.heap.size + 1) 28 #[.int .i64 0, .slice none 0 0] ∧ Blk wr ob 28 #[.int .i64 0, sv] ∧ ReadsM wr (.slice p xss.length c) xss ∧ Below w.heap.size w wr) (fun c' _ => 4 - (intOf c').toNat)
      case atStart => exact ⟨0, [], .slice none 0 0, Nat.zero_le _, rfl, fun k hk => by omega, I0, by simp, Y0, R0, O0, V0, B0⟩
      case round =>
        clear I0 Y0 R0 O0 V0 B0
        obtain ⟨n, bs, sv, hn, rfl, hmc, hI, hbs, Y0, R0, O0, V0, B0⟩ := hrel
        have HC : Hid (∀ k, k < n → (M k).1 = 0) := hmc
        clear hmc
        obtain ⟨po, co, rfl⟩ := Own.value hI
        by_cases hlt : n < 4
        · have hi : (n : Int) < 4 := by omega
          have KN := fun V k1 k2 => KP n V k1 k2 hlt
          go_wp2_with fail
          refine (KN _ Y0 V0).mono ?_
          rintro e w3 ⟨x, rfl, hx, hb3⟩
          replace hI := Own.keep hI hb3
          replace Y0 := Y0.keep hb3
          replace R0 := R0.keep hb3
          replace O0 := O0.keep hb3
          replace V0 := V0.below hb3
          replace B0 := B0.trans (hb3.mono B0.size)
          clear hb3 KN
          by_cases hM : (M n).1 = 0
          · have hm := HMB.out n hlt hM
            have HV : Hid (ov n = opS x (xss.getD n []) 4 % q) := by show _ = _; rw [hx hM]; exact HOV.out n
            rw [← hx hM] at hm
            have HC' : Hid (∀ k, k < n + 1 → (M k).1 = 0) := fun k hk => by
              rcases Nat.lt_or_ge k n with h | h
              · exact HC.out k h
              · rw [show k = n by omega]; exact hM
            rw [show decide ((M n).1 = 0) = true from decide_eq_true hM]
            have HBD : Hid (∀ k : Nat, 0 ≤ opS x (xss.getD n []) k ∧ opS x (xss.getD n []) k ≤ q * (k + 1)) := opS_bd hm (HX.out n)
            clear hM hx hm
            go_wp2_with fail
            go_loop [10, 12] (fun a b => ∃ k : Nat, k ≤ 4 ∧ b = .int .i64 k ∧ a = .int .i64 (opS x (xss.getD n []) k)) (fun _ b => 4 - (intOf b).toNat)
            case atStart => exact ⟨0, Nat.zero_le _, rfl, rfl⟩
            case round =>
              obtain ⟨k, hk, rfl, rfl⟩ := hrel
              have hbd := HBD.out k
              by_cases hlt2 : k < 4
              · obtain ⟨gb, off, pq, dq, hpp, hltb, c1, r1⟩ := V0.lane n (by rw [HL4.out]; exact hlt)
                rw [HR4.out n hlt] at c1 r1
                obtain ⟨g2, o2, hpq, hl2, d1⟩ := r1.one k (by rw [HR4.out n hlt]; exact hlt2)
                subst hpp hpq
                have hl4 : (xss.length : Int) = 4 := by rw [HL4.out]; rfl
                have hi1 : (n : Int) < (xss.length : Int) := by omega
                have hi2 : (k : Int) < 4 := by omega
                have hi20 : (0 : Int) ≤ (k : Int) := by omega
                have hxk := HX.out n k
                have HN : Hid (opS x (xss.getD n []) (k + 1) = opS x (xss.getD n []) k + (xss.getD n []).getD k 0) := rfl
                have hb4 : q * ((k : Int) + 1) ≤ 256 * 4 := by
                  have h1 : q * ((k : Int) + 1) ≤ 256 * ((k : Int) + 1) := Int.mul_le_mul_of_nonneg_right hq2 (by omega)
                  omega
                have hb5 := Int.le_trans hbd.2 hb4
                have hb6 := hbd.1
                clear r1 hbd hb4 hl4
                have ya := Y0.at.1
                have yl := Y0.lt
                generalize (xss.getD n []).getD k 0 = y at *
                generalize opS x (xss.getD n []) k = s at *
                go_wp2
                clear ya yl
                go_round
                case rel => exact ⟨k + 1, by omega, by go_num, by first | (rw [HN.out]; done) | (rw [HN.out]; go_num)⟩
                case measure => simp [intOf]; omega
              · obtain rfl : k = 4 := by omega
                have KM := fun V => spec_l1Mod q (opS x (xss.getD n []) 4) V hq1 hq2
                rw [← HV.out] at KM
                generalize opS x (xss.getD n []) 4 = s at *
                have HT : Hid ((List.range (n + 1)).map ov = (List.range n).map ov ++ [ov n]) := by show _ = _; rw [List.range_succ, List.map_append]; rfl
                have hln : ((List.range n).map ov).length = n := by simp
                rw [hln] at hI O0
                generalize hxs : (List.range n).map ov = xs at *
                clear hxs
                generalize ov n = y at *
                have hO1 : Own w3.drew 2 1 (.slice po n co) n (xs.map (Value.int .i64)) bs := hI
                have Y1 := Y0.drew
                have R1 := R0.drew
                have O1 := O0.drew
                have B1 : Below w.heap.size w w3.drew := B0.drew
                have V1 : ReadsM w3.drew (.slice p xss.length c) xss := V0.below (Below.refl _ _).drew
                have ya := Y0.at.1
                have yl := Y0.lt
                have oa := O0.at.1
                have obx := O0.at.2
                have ol := O0.lt
                clear hI Y0 R0 O0 V0 B0 hbd
                go_wp2_with fail
                go_region_law (first | (rw [if_pos (by rfl)]; go_simp; go_at_call 37; refine (KM _).mono ?_; rintro e w' ⟨rfl, rfl⟩; dsimp only) | (refine step_append_Own rfl (.tmp 53) (.tmp 58) 26 rfl 2 i1 (.int .i64 0) 1 8 Try.underlying26 gi gz0 gz1 gz2 rfl (by decide) (.slice po n co) n (xs.map (Value.int .i64)) bs rfl (Own.alloc hO1 _) ⟨w3.heap.size, 0, none⟩ 1 1 [.int .i64 y] rfl rfl (one_new (Blk.new _ _ _)) (by intro u hu; simp at hu; subst hu; rfl) (by omega) (by unfold maxLen; omega) (by omega) ?_; intro g cap w4 hO3 hOff hbo; have O3 := (O1.alloc _).off hOff (fun hm => by have := hbs _ hm; omega); have oa3 := O3.at.1; have ob3 := O3.at.2))
                all_goals
                  have Y3 := (Y1.alloc (.cells #[.int .i64 y] 2)).off hOff (fun hm => by have := hbs _ hm; omega)
                  have R3 := (R1.alloc (.cells #[.int .i64 y] 2)).off hOff (fun hm => by have := hbs _ hm; omega)
                  have B3 : Below w.heap.size w w4 := (B1.alloc B1.size (.cells #[.int .i64 y] 2)).trans (hOff.toBelow (B1.alloc B1.size (.cells #[.int .i64 y] 2)).size (fun y hy => by have := hbs y hy; omega))
                  have O4 := O3.set 1 (.slice (some ⟨g, 0, none⟩) (n + 1) cap)
                  have hg4 : ob < g := by
                    rcases hbo with h | h
                    · exact hbs g (by rw [h]; simp)
                    · have := ol; (try simp at h); omega
                  have hI4 : IntsT w4 (.slice (some ⟨g, 0, none⟩) (n + 1) cap) ((List.range (n + 1)).map ov) [g] := by
                    unfold IntsT
                    rw [HT.out, List.map_append, List.length_append, hln]
                    exact hO3
                  clear oa3 ob3 O3 hOff hbo Y1 R1 O1 B1 V1 ya yl oa obx hO1 hO3
                  go_wp2
                  go_roundw
                  case rel => exact ⟨n + 1, [g], _, by omega, by go_num, HC'.out, IntsT.setOther hI4 _ _ (by simp; omega), by simp; omega, Y3.setOther _ _ (by simp; omega), R3.setOther _ _ (by simp; omega), by simpa using O4, HVV.out _ (B3.setCell (by simp; omega) _), B3.setCell (by simp; omega) _⟩
                  case measure => simp [intOf]; omega
          · have HQ : Hid (RR = ⟨4, []⟩) := HR2.out (fun h => hM (HO.out.1 h n hlt))
            rw [show decide ((M n).1 = 0) = false from decide_eq_false hM]
            clear hM hx
            have R0a := R0.at.1
            have R0b := R0.at.2
            have R0l := R0.lt
            go_wp2
            exact bodyPost_ret (v := .agg #[.int .i64 4, .slice none 0 0]) (by simp [results, Try.results8, go_sem, R0a]) rfl ⟨_, [], rfl, by rw [HQ.out]; exact ⟨none, 0, rfl, Ints.nil _⟩, by simp, (by have zz0 := (B0).size; (try simp at zz0); repeat (first | exact Below.refl _ _ | refine Below.drew ?_ | refine below_drewN ?_ _ | refine Below.setCell ?_ (by first | omega | (simp; done) | (simp; omega)) _ | refine Below.alloc ?_ (by first | omega | (simp; done) | (simp; omega)) _ | refine bcall ?_ B0 (by first | omega | (simp; done) | (simp; omega))))⟩
        · obtain rfl : n = 4 := by omega
          have HQ : Hid (RR = ⟨0, LL⟩) := HR1.out (HO.out.2 HC.out)
          have HLL2 : Hid (LL = (List.range 4).map ov) := HLL.out
          rw [← HLL2.out] at hI O0
          have HLn : Hid (LL.length = 4) := by show _ = _; rw [HLL2.out]; rfl
          rw [HLn.out] at hI O0
          have R0a := R0.at.1
          have R0b := R0.at.2
          have R0l := R0.lt
          have O0a := O0.at.1
          have O0b := O0.at.2
          have O0l := O0.lt
          have hbn : ∀ y ∈ bs, ¬ y = w.heap.size + 1 := fun y hy => by have := hbs y hy; omega
          go_wp2
          refine bodyPost_ret (v := .agg #[.int .i64 0, .slice po 4 co]) (by simp [results, Try.results8, go_sem, R0a]) rfl ⟨_, bs, rfl, ?_, (fun y hy => by have := hbs y hy; omega), (by have zz0 := (B0).size; (try simp at zz0); repeat (first | exact Below.refl _ _ | refine Below.drew ?_ | refine below_drewN ?_ _ | refine Below.setCell ?_ (by first | omega | (simp; done) | (simp; omega)) _ | refine Below.alloc ?_ (by first | omega | (simp; done) | (simp; omega)) _ | refine bcall ?_ B0 (by first | omega | (simp; done) | (simp; omega))))⟩
          rw [HQ.out]
          refine ⟨po, co, by rw [HLn.out], ?_⟩
          rw [HLn.out]
          exact (IntsT.ints hI |>.setOther _ _ (by intro h; exact hbn _ h rfl)).setOther _ _ (by intro h; exact hbn _ h rfl)
    · rw [openR_out h0 hl]
      simp only [Bool.not_eq_true] at hl
      rw [hl] at KL
      clear hl h0
      go_enter Try.func8, Try.ntmps8
      go_wp2_with fail
      rw [← eW0]
      clear eW0
      refine KF.mono ?_
      rintro e w1 ⟨rfl, hb1⟩
      replace Y0 := Y0.keep hb1
      replace R0 := R0.keep hb1
      replace V0 := V0.below hb1
      replace B0 := B0.trans (hb1.mono B0.size)
      clear KF hb1
      go_wp2_with fail
      refine (KL _).mono ?_
      rintro e w' ⟨rfl, rfl⟩
      have R0a := R0.at.1
      have R0b := R0.at.2
      have R0l := R0.lt
      go_wp2
      exact bodyPost_ret (v := .agg #[.int .i64 3, .slice none 0 0]) (by simp [results, Try.results8, go_sem, R0a]) rfl ⟨_, [], rfl, ⟨none, 0, rfl, Ints.nil _⟩, by simp, (by have zz0 := (B0).size; (try simp at zz0); repeat (first | exact Below.refl _ _ | refine Below.drew ?_ | refine below_drewN ?_ _ | refine Below.setCell ?_ (by first | omega | (simp; done) | (simp; omega)) _ | refine Below.alloc ?_ (by first | omega | (simp; done) | (simp; omega)) _ | refine bcall ?_ B0 (by first | omega | (simp; done) | (simp; omega))))⟩
  · rw [openR_fault h0]
    have hne : (mirC q xss != 0) = true := by simpa using h0
    generalize mirC q xss = mc at *
    clear h0
    go_enter Try.func8, Try.ntmps8
    go_wp2_with fail
    rw [← eW0]
    clear eW0
    refine KF.mono ?_
    rintro e w1 ⟨rfl, hb1⟩
    replace Y0 := Y0.keep hb1
    replace R0 := R0.keep hb1
    replace V0 := V0.below hb1
    replace B0 := B0.trans (hb1.mono B0.size)
    clear KF hb1
    have R0a := R0.at.1
    have R0b := R0.at.2
    have R0l := R0.lt
    go_wp2
    exact bodyPost_ret (v := .agg #[.int .i64 mc, .slice none 0 0]) (by simp [results, Try.results8, go_sem, R0a]) rfl ⟨_, [], rfl, ⟨none, 0, rfl, Ints.nil _⟩, by simp, (by have zz0 := (B0).size; (try simp at zz0); repeat (first | exact Below.refl _ _ | refine Below.drew ?_ | refine below_drewN ?_ _ | refine Below.setCell ?_ (by first | omega | (simp; done) | (simp; omega)) _ | refine Below.alloc ?_ (by first | omega | (simp; done) | (simp; omega)) _ | refine bcall ?_ B0 (by first | omega | (simp; done) | (simp; omega))))⟩
end Go.Proofs.Ytcnbkdpmcohlgam
