/-
  Contracts of chapter 6 of the program: OpenMirror.
-/
import Derived.Test.YtcnbkdpmcohlgamOpn2
namespace Go.Proofs.Ytcnbkdpmcohlgam
open Go.ChangeShapes Go.WideShapes Go.ChangeAt Go.RowKit
set_option linter.unusedVariables false
theorem catchO_panicking (a b : Nat) (x c : Int) (u : TypeId) (pv : Value) (older : List PanicEntry) (w : World) (ha : Blk w a 28 #[.int .i64 x, .slice none 0 0]) (hb : Blk w b 28 #[.int .i64 c, .slice none 0 0]) (hne : a ≠ b) :
    CallsD Try.prog 77 #[.pointer (some ⟨a, 0, none⟩), .pointer (some ⟨b, 0, none⟩)] (.panicking ({ v := .iface u pv, recovered := false } :: older)) w fun e u' w' =>
      e = .returned (.tuple #[]) ∧ u' = .panicking ({ v := .iface u pv, recovered := true } :: older) ∧ w' = (w.setCell ⟨b, 0, none⟩ (.int .i64 x)).setCell ⟨b, 1, none⟩ (.slice none 0 0) := by
  have a1 := ha.at.1
  have b1 := hb.at.1
  have b2 := hb.at.2
  refine callsD_of_wpS Try.func77 rfl fun c₀ cs hu => ?_
  apply wpS_seq
  apply wpS_region
  simp [wpOpsS, go_sem, recoverD, hu, Try.ntmps77, Exit.thenS]
  refine wpS_cond (t := true) (by simp [Act.eval, Array.replicate]) ?_
  simp only [if_true]
  apply wpS_region
  simp [wpOpsS, go_sem, a1, b1, b2, bodyPostS, results, Try.results77]
theorem catchO_idle (a b : Nat) (w : World) :
    CallsD Try.prog 77 #[.pointer (some ⟨a, 0, none⟩), .pointer (some ⟨b, 0, none⟩)] .returning w fun e u' w' => e = .returned (.tuple #[]) ∧ u' = .returning ∧ w' = w := by
  refine callsD_of_wpS Try.func77 rfl fun c₀ cs hu => ?_
  apply wpS_seq
  apply wpS_region
  simp [wpOpsS, go_sem, recoverD, hu, Try.ntmps77, Exit.thenS]
  refine wpS_cond (t := false) (by simp [Act.eval, Array.replicate]) ?_
  simp only [Bool.false_eq_true, if_false]
  refine wpS_of_wp (wp_skip ?_)
  cases c₀
  simp_all [bodyPostS, results, Try.results77]
set_option maxHeartbeats 1000000 in
theorem impl_orNone_Open (n0 : Int) (ab mb wb yb : Nat) (v : Value) (xss : List (List Int)) (q who by' : Int) (w : World) (hs : Sq xss) (hq : q = 2 ∨ q = 256) (hx : ∀ i j, 0 ≤ (xss.getD i []).getD j 0 ∧ (xss.getD i []).getD j 0 < q) (hwho : -1 ≤ who ∧ who ≤ 3) (hby : 0 ≤ by' ∧ by' ≤ 255)
    (X : Blk w ab 72 (cells2 xss)) (Y : Blk w mb 30 #[.int .i64 q, v]) (Z1 : Blk w wb 2 #[.int .i64 who]) (Z2 : Blk w yb 2 #[.int .i64 by']) :
    Calls Try.prog 42 #[.agg #[.int .i64 n0, .slice none 0 0], .func (.func 43) #[] #[.pointer (some ⟨ab, 0, none⟩), .pointer (some ⟨mb, 0, none⟩), .pointer (some ⟨wb, 0, none⟩), .pointer (some ⟨yb, 0, none⟩)]] w fun e w' => ((openOk q xss who by' ∧ ∃ g, e = .returned (.agg #[.int .i64 0, .slice (some ⟨g, 0, none⟩) 4 4]) ∧ Ints w' (.slice (some ⟨g, 0, none⟩) 4 4) (openL q xss who by') [g] ∧ w.heap.size ≤ g) ∨ (¬ openOk q xss who by' ∧ e = .returned (.agg #[.int .i64 n0, .slice none 0 0]))) ∧ Below w.heap.size w w' := by
  have hmf : ∀ (fn : Fn) (first cap : Array Value) (w : World), (Instr.makeFunc fn first cap).run Try.prog w = .ok (.func fn first cap) w := fun _ _ _ _ => rfl
  have K := fun V k1 k2 k4 k5 => impl_OpenMirror_1 ab mb wb yb v xss q who by' V hs hq hx hwho hby k1 k2 k4 k5
  replace X := (X.alloc (.cells #[.int .i64 n0, .slice none 0 0] 28)).alloc (.cells #[.int .i64 0, .slice none 0 0] 28)
  replace Y := (Y.alloc (.cells #[.int .i64 n0, .slice none 0 0] 28)).alloc (.cells #[.int .i64 0, .slice none 0 0] 28)
  replace Z1 := (Z1.alloc (.cells #[.int .i64 n0, .slice none 0 0] 28)).alloc (.cells #[.int .i64 0, .slice none 0 0] 28)
  replace Z2 := (Z2.alloc (.cells #[.int .i64 n0, .slice none 0 0] 28)).alloc (.cells #[.int .i64 0, .slice none 0 0] 28)
  have X1 := (Blk.new w 28 #[.int .i64 n0, .slice none 0 0]).alloc (.cells #[.int .i64 0, .slice none 0 0] 28)
  have Y1 : Blk ((w.alloc (.cells #[.int .i64 n0, .slice none 0 0] 28)).alloc (.cells #[.int .i64 0, .slice none 0 0] 28)) (w.heap.size + 1) 28 #[.int .i64 0, .slice none 0 0] := by simpa using Blk.new (w.alloc (.cells #[.int .i64 n0, .slice none 0 0] 28)) 28 #[.int .i64 0, .slice none 0 0]
  clear hs hx hwho hby
  generalize openOk q xss who by' = OK at *
  generalize openL q xss who by' = LL at *
  go_enter_defers Try.func42, Try.ntmps42
  go_wp2_with fail
  refine (K _ X Y Z1 Z2).mono ?_
  rintro e w2 ⟨hA, hb2⟩
  have X2 := X1.keep hb2
  have Y2 := Y1.keep hb2
  have y1 := Y2.at.1
  have y2 := Y2.at.2
  have yl := Y2.lt
  have B2 : Below w.heap.size w w2 := (by have zz0 := (hb2).size; (try simp at zz0); repeat (first | exact Below.refl _ _ | refine Below.drew ?_ | refine below_drewN ?_ _ | refine Below.setCell ?_ (by first | omega | (simp; done) | (simp; omega)) _ | refine Below.alloc ?_ (by first | omega | (simp; done) | (simp; omega)) _ | refine bcall ?_ hb2 (by first | omega | (simp; done) | (simp; omega))))
  rcases hA with ⟨h0, g, rfl, hI, hg⟩ | ⟨h0, pv, rfl⟩
  · have hgn : w.heap.size + 1 < g := by simp at hg; omega
    go_wp2
    refine leaves_cons (f := 77) (args := #[.pointer (some ⟨w.heap.size, 0, none⟩), .pointer (some ⟨w.heap.size + 1, 0, none⟩)]) (by simp) (by simp [go_sem]) ?_
    refine (catchO_idle w.heap.size (w.heap.size + 1) _).mono ?_
    rintro e u' w'' ⟨rfl, rfl, rfl⟩
    refine ⟨.agg #[.int .i64 0, .slice (some ⟨g, 0, none⟩) 4 4], by simp [results, Try.results42, go_sem, y1], .inl ⟨h0, g, rfl, ?_, by omega⟩, (by have zz0 := (B2).size; (try simp at zz0); repeat (first | exact Below.refl _ _ | refine Below.drew ?_ | refine below_drewN ?_ _ | refine Below.setCell ?_ (by first | omega | (simp; done) | (simp; omega)) _ | refine Below.alloc ?_ (by first | omega | (simp; done) | (simp; omega)) _ | refine bcall ?_ B2 (by first | omega | (simp; done) | (simp; omega))))⟩
    exact (hI.setOther _ _ (by simp; omega)).setOther _ _ (by simp; omega)
  · refine leaves_cons (f := 77) (args := #[.pointer (some ⟨w.heap.size, 0, none⟩), .pointer (some ⟨w.heap.size + 1, 0, none⟩)]) (by simp) (by simp [go_sem]) ?_
    refine (catchO_panicking w.heap.size (w.heap.size + 1) _ _ _ pv [] _ X2 Y2 (by omega)).mono ?_
    rintro e u' w'' ⟨rfl, rfl, rfl⟩
    refine ⟨.agg #[.int .i64 n0, .slice none 0 0], by simp [results, Try.results42, go_sem, y1], .inr ⟨h0, rfl⟩, (by have zz0 := (B2).size; (try simp at zz0); repeat (first | exact Below.refl _ _ | refine Below.drew ?_ | refine below_drewN ?_ _ | refine Below.setCell ?_ (by first | omega | (simp; done) | (simp; omega)) _ | refine Below.alloc ?_ (by first | omega | (simp; done) | (simp; omega)) _ | refine bcall ?_ B2 (by first | omega | (simp; done) | (simp; omega))))⟩
set_option maxHeartbeats 4000000 in
set_option maxRecDepth 100000 in
theorem impl_OpenMirror (v : Value) (x : MMirror) (who by' : Int) (w : World) (hv : RdMirror w v x) :
    Calls Try.prog 10 #[v, .int .i64 who, .int .i64 by'] w fun e w' => ∃ u bs, e = .returned u ∧ OwOpenResult w' u (openR x.xQ x.xViews who by') bs ∧ (∀ y ∈ bs, w.heap.size ≤ y) ∧ Below w.heap.size w w' := by
  have KF := fun W h => impl_MirrorFault v x W h
  have KV := fun W h hs => impl_viewsOf v x W h hs
  obtain ⟨q, xss⟩ := x
  have hv0 := hv
  obtain ⟨p, c, rfl, hvv⟩ := hv
  clear hvv
  dsimp only at KF KV ⊢
  obtain ⟨W0, eW0⟩ : ∃ W0, W0 = (((w.alloc (.cells #[.int .i64 q, .slice p xss.length c] 30)).alloc (.cells #[.int .i64 who] 2)).alloc (.cells #[.int .i64 by'] 2)).alloc (.cells #[.int .i64 0, .slice none 0 0] 28) := ⟨_, rfl⟩
  have B0 : Below w.heap.size w W0 := by rw [eW0]; exact (by repeat (first | exact Below.refl _ _ | refine Below.drew ?_ | refine below_drewN ?_ _ | refine Below.setCell ?_ (by first | omega | (simp; done) | (simp; omega)) _ | refine Below.alloc ?_ (by first | omega | (simp; done) | (simp; omega)) _))
  have Y0 : Blk W0 w.heap.size 30 #[.int .i64 q, .slice p xss.length c] := by rw [eW0]; exact (((Blk.new w _ _).alloc _).alloc _).alloc _
  have Q0 : Blk W0 (w.heap.size + 1) 2 #[.int .i64 who] := by
    rw [eW0]
    have := (((Blk.new (w.alloc (.cells #[.int .i64 q, .slice p xss.length c] 30)) 2 #[.int .i64 who]).alloc (.cells #[.int .i64 by'] 2)).alloc (.cells #[.int .i64 0, .slice none 0 0] 28))
    simpa using this
  have Z0 : Blk W0 (w.heap.size + 2) 2 #[.int .i64 by'] := by
    rw [eW0]
    have := ((Blk.new ((w.alloc (.cells #[.int .i64 q, .slice p xss.length c] 30)).alloc (.cells #[.int .i64 who] 2)) 2 #[.int .i64 by']).alloc (.cells #[.int .i64 0, .slice none 0 0] 28))
    simpa using this
  have R0 : Blk W0 (w.heap.size + 3) 28 #[.int .i64 0, .slice none 0 0] := by
    rw [eW0]
    have := Blk.new (((w.alloc (.cells #[.int .i64 q, .slice p xss.length c] 30)).alloc (.cells #[.int .i64 who] 2)).alloc (.cells #[.int .i64 by'] 2)) 28 #[.int .i64 0, .slice none 0 0]
    simpa using this
  have V0 : RdMirror W0 (.agg #[.int .i64 q, .slice p xss.length c]) ⟨q, xss⟩ := hv0.below B0
  clear hv0
  by_cases h0 : mirC q xss = 0
  · rw [h0] at KF
    have KL := fun V => impl_isLie who by' V
    by_cases hl : isLieB who by' = true
    · rw [hl] at KL
      obtain ⟨hq, h4, hr, hx, -⟩ := mirC_zero h0
      have HS : Hid (Sq xss) := ⟨h4, hr⟩
      have hl' := isLieB_ok hl
      have KO := fun ab mb wb yb V k1 k2 k4 k5 => impl_orNone_Open 4 ab mb wb yb (.slice p xss.length c) xss q who by' V HS.out hq hx hl'.1 hl'.2 k1 k2 k4 k5
      have hmf : ∀ (fn : Fn) (first cap : Array Value) (w : World), (Instr.makeFunc fn first cap).run Try.prog w = .ok (.func fn first cap) w := fun _ _ _ _ => rfl
      have HR1 : Hid (openOk q xss who by' → openR q xss who by' = ⟨0, openL q xss who by'⟩) := fun h => openR_ok h0 hl h
      have HR2 : Hid (¬ openOk q xss who by' → openR q xss who by' = ⟨4, []⟩) := fun h => openR_none h0 hl h
      have HLL : Hid ((openL q xss who by').length = 4) := rfl
      generalize openR q xss who by' = RR at *
      generalize openOk q xss who by' = OK at *
      generalize openL q xss who by' = LL at *
      obtain ⟨a0, a1, a2, a3, b0, b1, b2, b3, c0, c1, c2, c3, d0, d1, d2, d3, hxs⟩ := HS.out.lit
      have HA : Hid (ag2 xss = .agg #[.int .i64 a0, .int .i64 a1, .int .i64 a2, .int .i64 a3, .int .i64 b0, .int .i64 b1, .int .i64 b2, .int .i64 b3, .int .i64 c0, .int .i64 c1, .int .i64 c2, .int .i64 c3, .int .i64 d0, .int .i64 d1, .int .i64 d2, .int .i64 d3]) := by rw [hxs]; rfl
      have HC : Hid (cells2 xss = #[.int .i64 a0, .int .i64 a1, .int .i64 a2, .int .i64 a3, .int .i64 b0, .int .i64 b1, .int .i64 b2, .int .i64 b3, .int .i64 c0, .int .i64 c1, .int .i64 c2, .int .i64 c3, .int .i64 d0, .int .i64 d1, .int .i64 d2, .int .i64 d3]) := by rw [hxs]; rfl
      clear hl hl' hx hr h4 h0 hxs hq
      go_enter Try.func10, Try.ntmps10
      rw [eW0] at Y0 Q0 Z0 R0 V0 B0
      have Y0a := Y0.at.1
      have Y0b := Y0.at.2
      have Y0l := Y0.lt
      have Q0a := Q0.at.1
      have Q0b := Q0.at.2
      have Q0l := Q0.lt
      have Z0a := Z0.at.1
      have Z0b := Z0.at.2
      have Z0l := Z0.lt
      have R0a := R0.at.1
      have R0b := R0.at.2
      have R0l := R0.lt
      go_wp2_with fail
      clear Y0a Y0b Y0l Q0a Q0b Q0l Z0a Z0b Z0l R0a R0b R0l
      rw [← eW0] at Y0 Q0 Z0 R0 V0 B0
      rw [← eW0]
      clear eW0
      refine (KF _ V0).mono ?_
      rintro e w1 ⟨rfl, hb1⟩
      replace Y0 := Y0.keep hb1
      replace Q0 := Q0.keep hb1
      replace Z0 := Z0.keep hb1
      replace R0 := R0.keep hb1
      replace V0 := V0.below hb1
      replace B0 := B0.trans (hb1.mono B0.size)
      clear hb1 KF
      have Q0a := Q0.at.1
      have Q0b := Q0.at.2
      have Q0l := Q0.lt
      have Z0a := Z0.at.1
      have Z0b := Z0.at.2
      have Z0l := Z0.lt
      go_wp2_with fail
      clear Q0a Q0b Q0l Z0a Z0b Z0l
      refine (KL _).mono ?_
      rintro e w' ⟨rfl, rfl⟩
      have Y0a := Y0.at.1
      have Y0b := Y0.at.2
      have Y0l := Y0.lt
      go_wp2_with fail
      clear Y0a Y0b Y0l
      refine (KV _ V0 HS.out).mono ?_
      rintro e w2 ⟨rfl, hb2⟩
      rw [HA.out]
      replace Y0 := Y0.keep hb2
      replace Q0 := Q0.keep hb2
      replace Z0 := Z0.keep hb2
      replace R0 := R0.keep hb2
      replace V0 := V0.below hb2
      replace B0 := B0.trans (hb2.mono B0.size)
      clear hb2 KV
      go_wp2_with fail
      have X0 : Blk (w2.alloc (.cells #[.int .i64 a0, .int .i64 a1, .int .i64 a2, .int .i64 a3, .int .i64 b0, .int .i64 b1, .int .i64 b2, .int .i64 b3, .int .i64 c0, .int .i64 c1, .int .i64 c2, .int .i64 c3, .int .i64 d0, .int .i64 d1, .int .i64 d2, .int .i64 d3] 72)) w2.heap.size 72 (cells2 xss) := by rw [HC.out]; exact Blk.new w2 _ _
      have hb3 : Below w2.heap.size w2 (w2.alloc (.cells #[.int .i64 a0, .int .i64 a1, .int .i64 a2, .int .i64 a3, .int .i64 b0, .int .i64 b1, .int .i64 b2, .int .i64 b3, .int .i64 c0, .int .i64 c1, .int .i64 c2, .int .i64 c3, .int .i64 d0, .int .i64 d1, .int .i64 d2, .int .i64 d3] 72)) := (Below.refl _ _).alloc (Nat.le_refl _) _
      replace Y0 := Y0.keep hb3
      replace Q0 := Q0.keep hb3
      replace Z0 := Z0.keep hb3
      replace R0 := R0.keep hb3
      replace V0 := V0.below hb3
      replace B0 := B0.trans (hb3.mono B0.size)
      clear hb3
      refine (KO _ _ _ _ _ X0 Y0 Q0 Z0).mono ?_
      rintro e w3 ⟨hA, hb4⟩
      have hsz : w.heap.size + 3 < (w2.alloc (.cells #[.int .i64 a0, .int .i64 a1, .int .i64 a2, .int .i64 a3, .int .i64 b0, .int .i64 b1, .int .i64 b2, .int .i64 b3, .int .i64 c0, .int .i64 c1, .int .i64 c2, .int .i64 c3, .int .i64 d0, .int .i64 d1, .int .i64 d2, .int .i64 d3] 72)).heap.size := R0.lt
      replace R0 := R0.keep hb4
      replace B0 := B0.trans (hb4.mono B0.size)
      clear KO X0
      rcases hA with ⟨hok, g, rfl, hI, hg⟩ | ⟨hno, rfl⟩
      · have hgn : w.heap.size + 3 < g := by omega
        have R0a := R0.at.1
        have R0b := R0.at.2
        have R0l := R0.lt
        go_wp2
        refine bodyPost_ret (v := .agg #[.int .i64 0, .slice (some ⟨g, 0, none⟩) 4 4]) (by simp [results, Try.results10, go_sem, R0a]) rfl ⟨_, [g], rfl, ?_, (fun y hy => by simp at hy; omega), (by have zz0 := (B0).size; (try simp at zz0); repeat (first | exact Below.refl _ _ | refine Below.drew ?_ | refine below_drewN ?_ _ | refine Below.setCell ?_ (by first | omega | (simp; done) | (simp; omega)) _ | refine Below.alloc ?_ (by first | omega | (simp; done) | (simp; omega)) _ | refine bcall ?_ B0 (by first | omega | (simp; done) | (simp; omega))))⟩
        rw [HR1.out hok]
        refine ⟨some ⟨g, 0, none⟩, 4, by rw [HLL.out], ?_⟩
        rw [HLL.out]
        exact (hI.setOther _ _ (by simp; omega)).setOther _ _ (by simp; omega)
      · have HQ : Hid (RR = ⟨4, []⟩) := HR2.out hno
        clear hno HR1 HR2
        have R0a := R0.at.1
        have R0b := R0.at.2
        have R0l := R0.lt
        go_wp2
        exact bodyPost_ret (v := .agg #[.int .i64 4, .slice none 0 0]) (by simp [results, Try.results10, go_sem, R0a]) rfl ⟨_, [], rfl, by rw [HQ.out]; exact ⟨none, 0, rfl, Ints.nil _⟩, by simp, (by have zz0 := (B0).size; (try simp at zz0); repeat (first | exact Below.refl _ _ | refine Below.drew ?_ | refine below_drewN ?_ _ | refine Below.setCell ?_ (by first | omega | (simp; done) | (simp; omega)) _ | refine Below.alloc ?_ (by first | omega | (simp; done) | (simp; omega)) _ | refine bcall ?_ B0 (by first | omega | (simp; done) | (simp; omega))))⟩
    · rw [openR_out h0 hl]
      simp only [Bool.not_eq_true] at hl
      rw [hl] at KL
      clear hl h0
      go_enter Try.func10, Try.ntmps10
      rw [eW0] at Y0 Q0 Z0 R0 V0 B0
      have Y0a := Y0.at.1
      have Y0b := Y0.at.2
      have Y0l := Y0.lt
      have Q0a := Q0.at.1
      have Q0b := Q0.at.2
      have Q0l := Q0.lt
      have Z0a := Z0.at.1
      have Z0b := Z0.at.2
      have Z0l := Z0.lt
      have R0a := R0.at.1
      have R0b := R0.at.2
      have R0l := R0.lt
      go_wp2_with fail
      clear Y0a Y0b Y0l Q0a Q0b Q0l Z0a Z0b Z0l R0a R0b R0l
      rw [← eW0] at Y0 Q0 Z0 R0 V0 B0
      rw [← eW0]
      clear eW0
      refine (KF _ V0).mono ?_
      rintro e w1 ⟨rfl, hb1⟩
      replace Y0 := Y0.keep hb1
      replace Q0 := Q0.keep hb1
      replace Z0 := Z0.keep hb1
      replace R0 := R0.keep hb1
      replace V0 := V0.below hb1
      replace B0 := B0.trans (hb1.mono B0.size)
      clear hb1 KF
      have Q0a := Q0.at.1
      have Q0b := Q0.at.2
      have Q0l := Q0.lt
      have Z0a := Z0.at.1
      have Z0b := Z0.at.2
      have Z0l := Z0.lt
      go_wp2_with fail
      clear Q0a Q0b Q0l Z0a Z0b Z0l
      refine (KL _).mono ?_
      rintro e w' ⟨rfl, rfl⟩
      have R0a := R0.at.1
      have R0b := R0.at.2
      have R0l := R0.lt
      go_wp2
      exact bodyPost_ret (v := .agg #[.int .i64 3, .slice none 0 0]) (by simp [results, Try.results10, go_sem, R0a]) rfl ⟨_, [], rfl, ⟨none, 0, rfl, Ints.nil _⟩, by simp, (by have zz0 := (B0).size; (try simp at zz0); repeat (first | exact Below.refl _ _ | refine Below.drew ?_ | refine below_drewN ?_ _ | refine Below.setCell ?_ (by first | omega | (simp; done) | (simp; omega)) _ | refine Below.alloc ?_ (by first | omega | (simp; done) | (simp; omega)) _ | refine bcall ?_ B0 (by first | omega | (simp; done) | (simp; omega))))⟩
  · rw [openR_fault h0]
    have hne : (mirC q xss != 0) = true := by simpa using h0
    generalize mirC q xss = mc at *
    clear h0
    go_enter Try.func10, Try.ntmps10
    rw [eW0] at Y0 Q0 Z0 R0 V0 B0
    have Y0a := Y0.at.1
    have Y0b := Y0.at.2
    have Y0l := Y0.lt
    have Q0a := Q0.at.1
    have Q0b := Q0.at.2
    have Q0l := Q0.lt
    have Z0a := Z0.at.1
    have Z0b := Z0.at.2
    have Z0l := Z0.lt
    have R0a := R0.at.1
    have R0b := R0.at.2
    have R0l := R0.lt
    go_wp2_with fail
    clear Y0a Y0b Y0l Q0a Q0b Q0l Z0a Z0b Z0l R0a R0b R0l
    rw [← eW0] at Y0 Q0 Z0 R0 V0 B0
    rw [← eW0]
    clear eW0
    refine (KF _ V0).mono ?_
    rintro e w1 ⟨rfl, hb1⟩
    replace Y0 := Y0.keep hb1
    replace Q0 := Q0.keep hb1
    replace Z0 := Z0.keep hb1
    replace R0 := R0.keep hb1
    replace V0 := V0.below hb1
    replace B0 := B0.trans (hb1.mono B0.size)
    clear hb1 KF
    have R0a := R0.at.1
    have R0b := R0.at.2
    have R0l := R0.lt
    go_wp2
    exact bodyPost_ret (v := .agg #[.int .i64 mc, .slice none 0 0]) (by simp [results, Try.results10, go_sem, R0a]) rfl ⟨_, [], rfl, ⟨none, 0, rfl, Ints.nil _⟩, by simp, (by have zz0 := (B0).size; (try simp at zz0); repeat (first | exact Below.refl _ _ | refine Below.drew ?_ | refine below_drewN ?_ _ | refine Below.setCell ?_ (by first | omega | (simp; done) | (simp; omega)) _ | refine Below.alloc ?_ (by first | omega | (simp; done) | (simp; omega)) _ | refine bcall ?_ B0 (by first | omega | (simp; done) | (simp; omega))))⟩
end Go.Proofs.Ytcnbkdpmcohlgam
