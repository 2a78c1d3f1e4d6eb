/-
  Contract of chapter 6 of the program: PartFrom.
-/
import Derived.Test.YtadppilldijijacPrt2
import Derived.Test.YtadppilldijijacMirJ
namespace Go.Proofs.Ytadppilldijijac
open Go.ChangeShapes Go.WideShapes Go.ChangeAt Go.RowKit
set_option linter.unusedVariables false
set_option maxHeartbeats 4000000 in
set_option maxRecDepth 100000 in
theorem impl_PartFrom (v : Value) (x : MMirror) (part who by' : Int) (w : World) (hv : RdMirror w v x) :
    Calls Try.prog 20 #[v, .int .i64 part, .int .i64 who, .int .i64 by'] w fun e w' => e = .returned (.agg #[.int .i64 (partR x.xQ x.xViews part who by').1, .int .i64 (partR x.xQ x.xViews part who by').2]) ∧ Below w.heap.size w w' := by
  have KF := fun W h => impl_MirrorFault v x W h
  have KV := fun W h hs => impl_viewsOf v x W h hs
  obtain ⟨q, xss⟩ := x
  have hv0 := hv
  obtain ⟨p, c, rfl, hvv⟩ := hv
  clear hvv
  dsimp only at KF KV ⊢
  obtain ⟨W0, eW0⟩ : ∃ W0, W0 = ((((w.alloc (.cells #[.int .i64 q, .slice p xss.length c] 37)).alloc (.cells #[.int .i64 part] 2)).alloc (.cells #[.int .i64 who] 2)).alloc (.cells #[.int .i64 by'] 2)).alloc (.cells #[.int .i64 0, .int .i64 0] 43) := ⟨_, rfl⟩
  have B0 : Below w.heap.size w W0 := by rw [eW0]; exact (by repeat (first | exact Below.refl _ _ | refine Below.drew ?_ | refine below_drewN ?_ _ | refine Below.setCell ?_ (by first | omega | (simp; done) | (simp; omega)) _ | refine Below.alloc ?_ (by first | omega | (simp; done) | (simp; omega)) _))
  have Y0 : Blk W0 w.heap.size 37 #[.int .i64 q, .slice p xss.length c] := by rw [eW0]; exact ((((Blk.new w _ _).alloc _).alloc _).alloc _).alloc _
  have P0 : Blk W0 (w.heap.size + 1) 2 #[.int .i64 part] := by
    rw [eW0]
    have := ((((Blk.new (w.alloc (.cells #[.int .i64 q, .slice p xss.length c] 37)) 2 #[.int .i64 part]).alloc (.cells #[.int .i64 who] 2)).alloc (.cells #[.int .i64 by'] 2)).alloc (.cells #[.int .i64 0, .int .i64 0] 43))
    simpa using this
  have Q0 : Blk W0 (w.heap.size + 2) 2 #[.int .i64 who] := by
    rw [eW0]
    have := (((Blk.new ((w.alloc (.cells #[.int .i64 q, .slice p xss.length c] 37)).alloc (.cells #[.int .i64 part] 2)) 2 #[.int .i64 who]).alloc (.cells #[.int .i64 by'] 2)).alloc (.cells #[.int .i64 0, .int .i64 0] 43))
    simpa using this
  have Z0 : Blk W0 (w.heap.size + 3) 2 #[.int .i64 by'] := by
    rw [eW0]
    have := ((Blk.new (((w.alloc (.cells #[.int .i64 q, .slice p xss.length c] 37)).alloc (.cells #[.int .i64 part] 2)).alloc (.cells #[.int .i64 who] 2)) 2 #[.int .i64 by']).alloc (.cells #[.int .i64 0, .int .i64 0] 43))
    simpa using this
  have R0 : Blk W0 (w.heap.size + 4) 43 #[.int .i64 0, .int .i64 0] := by
    rw [eW0]
    have := Blk.new ((((w.alloc (.cells #[.int .i64 q, .slice p xss.length c] 37)).alloc (.cells #[.int .i64 part] 2)).alloc (.cells #[.int .i64 who] 2)).alloc (.cells #[.int .i64 by'] 2)) 43 #[.int .i64 0, .int .i64 0]
    simpa using this
  have V0 : RdMirror W0 (.agg #[.int .i64 q, .slice p xss.length c]) ⟨q, xss⟩ := hv0.below B0
  clear hv0
  by_cases h0 : mirC q xss = 0
  · rw [h0] at KF
    by_cases hpt : 0 ≤ part ∧ part ≤ 3
    · have KL := fun V => impl_isLie who by' V
      by_cases hl : isLieB who by' = true
      · rw [partR_in h0 ⟨hpt, hl⟩]
        rw [hl] at KL
        obtain ⟨n, rfl⟩ : ∃ n : Nat, part = n := ⟨part.toNat, by omega⟩
        rw [Int.toNat_natCast]
        obtain ⟨hq, h4, hr, hx, -⟩ := mirC_zero h0
        have HS : Hid (Sq xss) := ⟨h4, hr⟩
        have hl' := isLieB_ok hl
        have KO := fun ab mb pb wb yb V k1 k2 k3 k4 k5 => impl_orNone_Part 4 0 ab mb pb wb yb (.slice p xss.length c) xss q n who by' V HS.out (by omega) hq (fun k hk => hx k n) hl'.1 hl'.2 k1 k2 k3 k4 k5
        have HM : Hid ((partM q xss n who by').1 ≠ 0 → partM q xss n who by' = (4, 0)) := fun h => major_four (told4_three' n _ (by omega)) h
        have hmf : ∀ (fn : Fn) (first cap : Array Value) (w : World), (Instr.makeFunc fn first cap).run Try.prog w = .ok (.func fn first cap) w := fun _ _ _ _ => rfl
        generalize partM q xss n who by' = M at *
        obtain ⟨a0, a1, a2, a3, b0, b1, b2, b3, c0, c1, c2, c3, d0, d1, d2, d3, hxs⟩ := HS.out.lit
        have HA : Hid (ag2 xss = .agg #[.int .i64 a0, .int .i64 a1, .int .i64 a2, .int .i64 a3, .int .i64 b0, .int .i64 b1, .int .i64 b2, .int .i64 b3, .int .i64 c0, .int .i64 c1, .int .i64 c2, .int .i64 c3, .int .i64 d0, .int .i64 d1, .int .i64 d2, .int .i64 d3]) := by rw [hxs]; rfl
        have HC : Hid (cells2 xss = #[.int .i64 a0, .int .i64 a1, .int .i64 a2, .int .i64 a3, .int .i64 b0, .int .i64 b1, .int .i64 b2, .int .i64 b3, .int .i64 c0, .int .i64 c1, .int .i64 c2, .int .i64 c3, .int .i64 d0, .int .i64 d1, .int .i64 d2, .int .i64 d3]) := by rw [hxs]; rfl
        clear hl hl' hx hr h4 h0 hxs hq
        go_enter Try.func20, Try.ntmps20
        rw [eW0] at Y0 P0 Q0 Z0 R0 V0 B0
        have Y0a := Y0.at.1
        have Y0b := Y0.at.2
        have Y0l := Y0.lt
        have P0a := P0.at.1
        have P0b := P0.at.2
        have P0l := P0.lt
        have Q0a := Q0.at.1
        have Q0b := Q0.at.2
        have Q0l := Q0.lt
        have Z0a := Z0.at.1
        have Z0b := Z0.at.2
        have Z0l := Z0.lt
        have R0a := R0.at.1
        have R0b := R0.at.2
        have R0l := R0.lt
        go_wp2_with fail
        clear Y0a Y0b Y0l P0a P0b P0l Q0a Q0b Q0l Z0a Z0b Z0l R0a R0b R0l
        rw [← eW0] at Y0 P0 Q0 Z0 R0 V0 B0
        rw [← eW0]
        clear eW0
        refine (KF _ V0).mono ?_
        rintro e w1 ⟨rfl, hb1⟩
        replace Y0 := Y0.keep hb1
        replace P0 := P0.keep hb1
        replace Q0 := Q0.keep hb1
        replace Z0 := Z0.keep hb1
        replace R0 := R0.keep hb1
        replace V0 := V0.below hb1
        replace B0 := B0.trans (hb1.mono B0.size)
        clear hb1 KF
        have P0a := P0.at.1
        have P0b := P0.at.2
        have P0l := P0.lt
        go_wp2_with fail
        clear P0a P0b P0l
        refine (impl_isParty_yes _ _ hpt).mono ?_
        rintro e w' ⟨rfl, rfl⟩
        have Q0a := Q0.at.1
        have Q0b := Q0.at.2
        have Q0l := Q0.lt
        have Z0a := Z0.at.1
        have Z0b := Z0.at.2
        have Z0l := Z0.lt
        go_wp2_with fail
        clear Q0a Q0b Q0l Z0a Z0b Z0l
        refine (KL _).mono ?_
        rintro e w' ⟨rfl, rfl⟩
        have Y0a := Y0.at.1
        have Y0b := Y0.at.2
        have Y0l := Y0.lt
        go_wp2_with fail
        clear Y0a Y0b Y0l
        refine (KV _ V0 HS.out).mono ?_
        rintro e w2 ⟨rfl, hb2⟩
        rw [HA.out]
        replace Y0 := Y0.keep hb2
        replace P0 := P0.keep hb2
        replace Q0 := Q0.keep hb2
        replace Z0 := Z0.keep hb2
        replace R0 := R0.keep hb2
        replace V0 := V0.below hb2
        replace B0 := B0.trans (hb2.mono B0.size)
        clear hb2 KV
        go_wp2_with fail
        have X0 : Blk (w2.alloc (.cells #[.int .i64 a0, .int .i64 a1, .int .i64 a2, .int .i64 a3, .int .i64 b0, .int .i64 b1, .int .i64 b2, .int .i64 b3, .int .i64 c0, .int .i64 c1, .int .i64 c2, .int .i64 c3, .int .i64 d0, .int .i64 d1, .int .i64 d2, .int .i64 d3] 88)) w2.heap.size 88 (cells2 xss) := by rw [HC.out]; exact Blk.new w2 _ _
        have hb3 : Below w2.heap.size w2 (w2.alloc (.cells #[.int .i64 a0, .int .i64 a1, .int .i64 a2, .int .i64 a3, .int .i64 b0, .int .i64 b1, .int .i64 b2, .int .i64 b3, .int .i64 c0, .int .i64 c1, .int .i64 c2, .int .i64 c3, .int .i64 d0, .int .i64 d1, .int .i64 d2, .int .i64 d3] 88)) := (Below.refl _ _).alloc (Nat.le_refl _) _
        replace Y0 := Y0.keep hb3
        replace P0 := P0.keep hb3
        replace Q0 := Q0.keep hb3
        replace Z0 := Z0.keep hb3
        replace R0 := R0.keep hb3
        replace V0 := V0.below hb3
        replace B0 := B0.trans (hb3.mono B0.size)
        clear hb3
        refine (KO _ _ _ _ _ _ X0 Y0 P0 Q0 Z0).mono ?_
        rintro e w3 ⟨rfl, hb4⟩
        replace R0 := R0.keep hb4
        replace B0 := B0.trans (hb4.mono B0.size)
        clear KO X0
        by_cases hM : M.1 = 0
        · rw [if_pos hM]
          have R0a := R0.at.1
          have R0b := R0.at.2
          have R0l := R0.lt
          go_wp2
          exact bodyPost_ret (v := .agg #[.int .i64 0, .int .i64 M.2]) (by simp [results, Try.results20, go_sem, R0a]) rfl ⟨by rw [hM], (by have zz0 := (B0).size; (try simp at zz0); repeat (first | exact Below.refl _ _ | refine Below.drew ?_ | refine below_drewN ?_ _ | refine Below.setCell ?_ (by first | omega | (simp; done) | (simp; omega)) _ | refine Below.alloc ?_ (by first | omega | (simp; done) | (simp; omega)) _ | refine bcall ?_ B0 (by first | omega | (simp; done) | (simp; omega))))⟩
        · rw [if_neg hM]
          have R0a := R0.at.1
          have R0b := R0.at.2
          have R0l := R0.lt
          go_wp2
          exact bodyPost_ret (v := .agg #[.int .i64 4, .int .i64 0]) (by simp [results, Try.results20, go_sem, R0a]) rfl ⟨by rw [HM.out hM], (by have zz0 := (B0).size; (try simp at zz0); repeat (first | exact Below.refl _ _ | refine Below.drew ?_ | refine below_drewN ?_ _ | refine Below.setCell ?_ (by first | omega | (simp; done) | (simp; omega)) _ | refine Below.alloc ?_ (by first | omega | (simp; done) | (simp; omega)) _ | refine bcall ?_ B0 (by first | omega | (simp; done) | (simp; omega))))⟩
      · rw [partR_out h0 (fun h => hl h.2)]
        simp only [Bool.not_eq_true] at hl
        rw [hl] at KL
        clear hl h0
        go_enter Try.func20, Try.ntmps20
        rw [eW0] at Y0 P0 Q0 Z0 R0 V0 B0
        have Y0a := Y0.at.1
        have Y0b := Y0.at.2
        have Y0l := Y0.lt
        have P0a := P0.at.1
        have P0b := P0.at.2
        have P0l := P0.lt
        have Q0a := Q0.at.1
        have Q0b := Q0.at.2
        have Q0l := Q0.lt
        have Z0a := Z0.at.1
        have Z0b := Z0.at.2
        have Z0l := Z0.lt
        have R0a := R0.at.1
        have R0b := R0.at.2
        have R0l := R0.lt
        go_wp2_with fail
        clear Y0a Y0b Y0l P0a P0b P0l Q0a Q0b Q0l Z0a Z0b Z0l R0a R0b R0l
        rw [← eW0] at Y0 P0 Q0 Z0 R0 V0 B0
        rw [← eW0]
        clear eW0
        refine (KF _ V0).mono ?_
        rintro e w1 ⟨rfl, hb1⟩
        replace Y0 := Y0.keep hb1
        replace P0 := P0.keep hb1
        replace Q0 := Q0.keep hb1
        replace Z0 := Z0.keep hb1
        replace R0 := R0.keep hb1
        replace V0 := V0.below hb1
        replace B0 := B0.trans (hb1.mono B0.size)
        clear hb1 KF
        have P0a := P0.at.1
        have P0b := P0.at.2
        have P0l := P0.lt
        go_wp2_with fail
        clear P0a P0b P0l
        refine (impl_isParty_yes _ _ hpt).mono ?_
        rintro e w' ⟨rfl, rfl⟩
        have Q0a := Q0.at.1
        have Q0b := Q0.at.2
        have Q0l := Q0.lt
        have Z0a := Z0.at.1
        have Z0b := Z0.at.2
        have Z0l := Z0.lt
        go_wp2_with fail
        clear Q0a Q0b Q0l Z0a Z0b Z0l
        refine (KL _).mono ?_
        rintro e w' ⟨rfl, rfl⟩
        have R0a := R0.at.1
        have R0b := R0.at.2
        have R0l := R0.lt
        go_wp2
        exact bodyPost_ret (v := .agg #[.int .i64 3, .int .i64 0]) (by simp [results, Try.results20, go_sem, R0a]) rfl ⟨rfl, (by have zz0 := (B0).size; (try simp at zz0); repeat (first | exact Below.refl _ _ | refine Below.drew ?_ | refine below_drewN ?_ _ | refine Below.setCell ?_ (by first | omega | (simp; done) | (simp; omega)) _ | refine Below.alloc ?_ (by first | omega | (simp; done) | (simp; omega)) _ | refine bcall ?_ B0 (by first | omega | (simp; done) | (simp; omega))))⟩
    · rw [partR_out h0 (fun h => hpt h.1)]
      clear h0
      go_enter Try.func20, Try.ntmps20
      rw [eW0] at Y0 P0 Q0 Z0 R0 V0 B0
      have Y0a := Y0.at.1
      have Y0b := Y0.at.2
      have Y0l := Y0.lt
      have P0a := P0.at.1
      have P0b := P0.at.2
      have P0l := P0.lt
      have Q0a := Q0.at.1
      have Q0b := Q0.at.2
      have Q0l := Q0.lt
      have Z0a := Z0.at.1
      have Z0b := Z0.at.2
      have Z0l := Z0.lt
      have R0a := R0.at.1
      have R0b := R0.at.2
      have R0l := R0.lt
      go_wp2_with fail
      clear Y0a Y0b Y0l P0a P0b P0l Q0a Q0b Q0l Z0a Z0b Z0l R0a R0b R0l
      rw [← eW0] at Y0 P0 Q0 Z0 R0 V0 B0
      rw [← eW0]
      clear eW0
      refine (KF _ V0).mono ?_
      rintro e w1 ⟨rfl, hb1⟩
      replace Y0 := Y0.keep hb1
      replace P0 := P0.keep hb1
      replace Q0 := Q0.keep hb1
      replace Z0 := Z0.keep hb1
      replace R0 := R0.keep hb1
      replace V0 := V0.below hb1
      replace B0 := B0.trans (hb1.mono B0.size)
      clear hb1 KF
      have P0a := P0.at.1
      have P0b := P0.at.2
      have P0l := P0.lt
      go_wp2_with fail
      clear P0a P0b P0l
      refine (impl_isParty_no _ _ hpt).mono ?_
      rintro e w' ⟨rfl, rfl⟩
      have R0a := R0.at.1
      have R0b := R0.at.2
      have R0l := R0.lt
      go_wp2
      exact bodyPost_ret (v := .agg #[.int .i64 3, .int .i64 0]) (by simp [results, Try.results20, go_sem, R0a]) rfl ⟨rfl, (by have zz0 := (B0).size; (try simp at zz0); repeat (first | exact Below.refl _ _ | refine Below.drew ?_ | refine below_drewN ?_ _ | refine Below.setCell ?_ (by first | omega | (simp; done) | (simp; omega)) _ | refine Below.alloc ?_ (by first | omega | (simp; done) | (simp; omega)) _ | refine bcall ?_ B0 (by first | omega | (simp; done) | (simp; omega))))⟩
  · rw [partR_fault h0]
    have hne : (mirC q xss != 0) = true := by simpa using h0
    generalize mirC q xss = mc at *
    clear h0
    go_enter Try.func20, Try.ntmps20
    rw [eW0] at Y0 P0 Q0 Z0 R0 V0 B0
    have Y0a := Y0.at.1
    have Y0b := Y0.at.2
    have Y0l := Y0.lt
    have P0a := P0.at.1
    have P0b := P0.at.2
    have P0l := P0.lt
    have Q0a := Q0.at.1
    have Q0b := Q0.at.2
    have Q0l := Q0.lt
    have Z0a := Z0.at.1
    have Z0b := Z0.at.2
    have Z0l := Z0.lt
    have R0a := R0.at.1
    have R0b := R0.at.2
    have R0l := R0.lt
    go_wp2_with fail
    clear Y0a Y0b Y0l P0a P0b P0l Q0a Q0b Q0l Z0a Z0b Z0l R0a R0b R0l
    rw [← eW0] at Y0 P0 Q0 Z0 R0 V0 B0
    rw [← eW0]
    clear eW0
    refine (KF _ V0).mono ?_
    rintro e w1 ⟨rfl, hb1⟩
    replace Y0 := Y0.keep hb1
    replace P0 := P0.keep hb1
    replace Q0 := Q0.keep hb1
    replace Z0 := Z0.keep hb1
    replace R0 := R0.keep hb1
    replace V0 := V0.below hb1
    replace B0 := B0.trans (hb1.mono B0.size)
    clear hb1 KF
    have R0a := R0.at.1
    have R0b := R0.at.2
    have R0l := R0.lt
    go_wp2
    exact bodyPost_ret (v := .agg #[.int .i64 mc, .int .i64 0]) (by simp [results, Try.results20, go_sem, R0a]) rfl ⟨rfl, (by have zz0 := (B0).size; (try simp at zz0); repeat (first | exact Below.refl _ _ | refine Below.drew ?_ | refine below_drewN ?_ _ | refine Below.setCell ?_ (by first | omega | (simp; done) | (simp; omega)) _ | refine Below.alloc ?_ (by first | omega | (simp; done) | (simp; omega)) _ | refine bcall ?_ B0 (by first | omega | (simp; done) | (simp; omega))))⟩
end Go.Proofs.Ytadppilldijijac
