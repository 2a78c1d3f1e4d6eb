/-
  Contracts of chapter 6 of the program: what a panic leaves where it is recovered; AgreeInput.
-/
import Derived.Test.YtbmemdgeohnpnalGreatTel
import Derived.Test.YtbmemdgeohnpnalGreatEl
namespace Go.Proofs.YtbmemdgeohnpnalGreat
open Go.ChangeShapes Go.WideShapes Go.ChangeAt Go.RowKit
set_option linter.unusedVariables false
def AgrR (m : Int × Int) (e : Ending) : Prop := (m.1 = 0 ∧ e = .returned (.agg #[.int .i64 0, .int .i64 m.2])) ∨ (m.1 ≠ 0 ∧ ∃ pv, e = .panicked [{ v := .iface 9 pv, recovered := false }])
theorem catchI_panicking (a b : Nat) (x y : Int) (c d : Value) (u : TypeId) (pv : Value) (older : List PanicEntry) (w : World) (ha : Blk w a 114 #[.int .i64 x, .int .i64 y]) (hb : Blk w b 114 #[c, d]) (hne : a ≠ b) :
    CallsD Tryz.prog 150 #[.pointer (some ⟨a, 0, none⟩), .pointer (some ⟨b, 0, none⟩)] (.panicking ({ v := .iface u pv, recovered := false } :: older)) w fun e u' w' =>
      e = .returned (.tuple #[]) ∧ u' = .panicking ({ v := .iface u pv, recovered := true } :: older) ∧ w' = (w.setCell ⟨b, 0, none⟩ (.int .i64 x)).setCell ⟨b, 1, none⟩ (.int .i64 y) := by
  have a1 := ha.at.1
  have b1 := hb.at.1
  have b2 := hb.at.2
  refine callsD_of_wpS Tryz.func150 rfl fun c₀ cs hu => ?_
  apply wpS_seq
  apply wpS_region
  simp [wpOpsS, go_sem, recoverD, hu, Tryz.ntmps150, Exit.thenS]
  refine wpS_cond (t := true) (by simp [Act.eval, Array.replicate]) ?_
  simp only [if_true]
  apply wpS_region
  simp [wpOpsS, go_sem, a1, b1, b2, bodyPostS, results, Tryz.results150]
theorem catchI_idle (a b : Nat) (w : World) :
    CallsD Tryz.prog 150 #[.pointer (some ⟨a, 0, none⟩), .pointer (some ⟨b, 0, none⟩)] .returning w fun e u' w' => e = .returned (.tuple #[]) ∧ u' = .returning ∧ w' = w := by
  refine callsD_of_wpS Tryz.func150 rfl fun c₀ cs hu => ?_
  apply wpS_seq
  apply wpS_region
  simp [wpOpsS, go_sem, recoverD, hu, Tryz.ntmps150, Exit.thenS]
  refine wpS_cond (t := false) (by simp [Act.eval, Array.replicate]) ?_
  simp only [Bool.false_eq_true, if_false]
  refine wpS_of_wp (wp_skip ?_)
  cases c₀
  simp_all [bodyPostS, results, Tryz.results150]
theorem impl_AgreeInput_1 (tb b part m : Nat) (f : Nat → Int) (w : World) (hp : part < 4) (h : Tel w b part f 4 m) (hb : Blk w tb 157 #[.map (some b)]) : Calls Tryz.prog 123 #[.pointer (some ⟨tb, 0, none⟩)] w fun e w' => AgrR (major (told4 part f 4)) e ∧ Below w.heap.size w w' := by
  have K := fun V h => impl_agreed b part m f V hp h
  have h1 : Tel (w.alloc (.cells #[.int .i64 0, .int .i64 0] 114)) b part f 4 m := World.ownsMap.alloc h _
  have x1 := (hb.alloc (.cells #[.int .i64 0, .int .i64 0] 114)).at.1
  have hl := hb.lt
  have hne : tb ≠ w.heap.size := by omega
  generalize told4 part f 4 = xs at *
  go_enter Tryz.func123, Tryz.ntmps123
  go_wp2_with fail
  refine (K _ h1).mono ?_
  rintro e w2 ⟨hA, hb2⟩
  have Y := (Blk.new w 114 #[.int .i64 0, .int .i64 0]).keep hb2
  have y1 := Y.at.1
  have y2 := Y.at.2
  have yl := Y.lt
  have B2 : Below w.heap.size w w2 := (by have zz0 := (hb2).size; (try simp at zz0); repeat (first | exact Below.refl _ _ | refine Below.drew ?_ | refine below_drewN ?_ _ | refine Below.setCell ?_ (by first | omega | (simp; done) | (simp; omega)) _ | refine Below.alloc ?_ (by first | omega | (simp; done) | (simp; omega)) _ | refine bcall ?_ hb2 (by first | omega | (simp; done) | (simp; omega))))
  rcases hA with ⟨h0, rfl⟩ | ⟨h0, pv, rfl⟩
  · go_wp2
    exact bodyPost_ret (v := .agg #[.int .i64 0, .int .i64 (major xs).2]) (by simp [results, Tryz.results123, go_sem, y1]) rfl ⟨.inl ⟨h0, rfl⟩, (by have zz0 := (B2).size; (try simp at zz0); repeat (first | exact Below.refl _ _ | refine Below.drew ?_ | refine below_drewN ?_ _ | refine Below.setCell ?_ (by first | omega | (simp; done) | (simp; omega)) _ | refine Below.alloc ?_ (by first | omega | (simp; done) | (simp; omega)) _ | refine bcall ?_ B2 (by first | omega | (simp; done) | (simp; omega))))⟩
  · exact ⟨rfl, .inr ⟨h0, pv, rfl⟩, B2⟩
set_option maxHeartbeats 1000000 in
theorem impl_orNone_Agree (n0 n1 : Int) (tb b part m : Nat) (f : Nat → Int) (w : World) (hp : part < 4) (h : Tel w b part f 4 m) (hb : Blk w tb 157 #[.map (some b)]) : Calls Tryz.prog 122 #[.agg #[.int .i64 n0, .int .i64 n1], .func (.func 123) #[] #[.pointer (some ⟨tb, 0, none⟩)]] w fun e w' => e = .returned (if (major (told4 part f 4)).1 = 0 then .agg #[.int .i64 0, .int .i64 (major (told4 part f 4)).2] else .agg #[.int .i64 n0, .int .i64 n1]) ∧ Below w.heap.size w w' := by
  have hmf : ∀ (fn : Fn) (first cap : Array Value) (w : World), (Instr.makeFunc fn first cap).run Tryz.prog w = .ok (.func fn first cap) w := fun _ _ _ _ => rfl
  have K := fun V h k => impl_AgreeInput_1 tb b part m f V hp h k
  have h1 : Tel ((w.alloc (.cells #[.int .i64 n0, .int .i64 n1] 114)).alloc (.cells #[.int .i64 0, .int .i64 0] 114)) b part f 4 m := World.ownsMap.alloc (World.ownsMap.alloc h _) _
  have hb1 := (hb.alloc (.cells #[.int .i64 n0, .int .i64 n1] 114)).alloc (.cells #[.int .i64 0, .int .i64 0] 114)
  have X1 := (Blk.new w 114 #[.int .i64 n0, .int .i64 n1]).alloc (.cells #[.int .i64 0, .int .i64 0] 114)
  have Y1 : Blk ((w.alloc (.cells #[.int .i64 n0, .int .i64 n1] 114)).alloc (.cells #[.int .i64 0, .int .i64 0] 114)) (w.heap.size + 1) 114 #[.int .i64 0, .int .i64 0] := by simpa using Blk.new (w.alloc (.cells #[.int .i64 n0, .int .i64 n1] 114)) 114 #[.int .i64 0, .int .i64 0]
  generalize told4 part f 4 = xs at *
  go_enter_defers Tryz.func122, Tryz.ntmps122
  go_wp2_with fail
  refine (K _ h1 hb1).mono ?_
  rintro e w2 ⟨hA, hb2⟩
  have X2 := X1.keep hb2
  have Y2 := Y1.keep hb2
  have y1 := Y2.at.1
  have y2 := Y2.at.2
  have yl := Y2.lt
  have B2 : Below w.heap.size w w2 := (by have zz0 := (hb2).size; (try simp at zz0); repeat (first | exact Below.refl _ _ | refine Below.drew ?_ | refine below_drewN ?_ _ | refine Below.setCell ?_ (by first | omega | (simp; done) | (simp; omega)) _ | refine Below.alloc ?_ (by first | omega | (simp; done) | (simp; omega)) _ | refine bcall ?_ hb2 (by first | omega | (simp; done) | (simp; omega))))
  rcases hA with ⟨h0, rfl⟩ | ⟨h0, pv, rfl⟩
  · go_wp2
    refine leaves_cons (f := 150) (args := #[.pointer (some ⟨w.heap.size, 0, none⟩), .pointer (some ⟨w.heap.size + 1, 0, none⟩)]) (by simp) (by simp [go_sem]) ?_
    refine (catchI_idle w.heap.size (w.heap.size + 1) _).mono ?_
    rintro e u' w'' ⟨rfl, rfl, rfl⟩
    refine ⟨.agg #[.int .i64 0, .int .i64 (major xs).2], by simp [results, Tryz.results122, go_sem, y1], by first | rfl | rw [if_pos h0], (by have zz0 := (B2).size; (try simp at zz0); repeat (first | exact Below.refl _ _ | refine Below.drew ?_ | refine below_drewN ?_ _ | refine Below.setCell ?_ (by first | omega | (simp; done) | (simp; omega)) _ | refine Below.alloc ?_ (by first | omega | (simp; done) | (simp; omega)) _ | refine bcall ?_ B2 (by first | omega | (simp; done) | (simp; omega))))⟩
  · refine leaves_cons (f := 150) (args := #[.pointer (some ⟨w.heap.size, 0, none⟩), .pointer (some ⟨w.heap.size + 1, 0, none⟩)]) (by simp) (by simp [go_sem]) ?_
    refine (catchI_panicking w.heap.size (w.heap.size + 1) n0 n1 _ _ _ pv [] _ X2 Y2 (by omega)).mono ?_
    rintro e u' w'' ⟨rfl, rfl, rfl⟩
    refine ⟨.agg #[.int .i64 n0, .int .i64 n1], by simp [results, Tryz.results122, go_sem, y1], by first | rfl | rw [if_neg h0], (by have zz0 := (B2).size; (try simp at zz0); repeat (first | exact Below.refl _ _ | refine Below.drew ?_ | refine below_drewN ?_ _ | refine Below.setCell ?_ (by first | omega | (simp; done) | (simp; omega)) _ | refine Below.alloc ?_ (by first | omega | (simp; done) | (simp; omega)) _ | refine bcall ?_ B2 (by first | omega | (simp; done) | (simp; omega))))⟩
/-- the code and the value of AgreeInput -/
def agreeR (xs : List Int) : Int × Int := if xs.length = 3 then (if okE 256 xs = true then (0, (major xs).2) else (3, 0)) else (2, 0)
theorem agreeR_many (xs : List Int) (h : xs.length ≠ 3) : agreeR xs = (2, 0) := by unfold agreeR; rw [if_neg h]
theorem agreeR_bad (xs : List Int) (h : xs.length = 3) (k : ¬ okE 256 xs = true) : agreeR xs = (3, 0) := by unfold agreeR; rw [if_pos h, if_neg k]
theorem agreeR_ok (xs : List Int) (h : xs.length = 3) (k : okE 256 xs = true) : agreeR xs = (0, (major xs).2) := by unfold agreeR; rw [if_pos h, if_pos k]
theorem major_no {xs : List Int} (h3 : xs.length = 3) (h : (major xs).1 ≠ 0) : (major xs).2 = 0 := by
  obtain ⟨a, b, c, rfl⟩ := three_of xs h3
  revert h
  simp only [major]
  split
  · intro h; exact absurd rfl h
  · split
    · intro h; exact absurd rfl h
    · intro _; rfl
theorem major_pick {xs : List Int} (h3 : xs.length = 3) : (if (major xs).1 = 0 then Value.agg #[.int .i64 0, .int .i64 (major xs).2] else .agg #[.int .i64 0, .int .i64 0]) = .agg #[.int .i64 0, .int .i64 (major xs).2] := by
  by_cases h : (major xs).1 = 0
  · rw [if_pos h]
  · rw [if_neg h, major_no h3 h]
theorem told4_three {xs : List Int} (h3 : xs.length = 3) : told4 3 (fun k => xs.getD k 0) 4 = xs := by
  obtain ⟨a, b, c, rfl⟩ := three_of xs h3
  rfl
set_option maxHeartbeats 4000000 in
theorem impl_AgreeInput (v : Value) (xs : List Int) (w : World) (hv : Reads w .i64 v xs) : Calls Tryz.prog 98 #[v] w fun e w' => e = .returned (.agg #[.int .i64 (agreeR xs).1, .int .i64 (agreeR xs).2]) ∧ Below w.heap.size w w' := by
  have hm := hv.le
  unfold maxLen at hm
  have R0 : Reads (w.alloc (.cells #[.int .i64 0, .int .i64 0] 114)) .i64 v xs := hv.below (by repeat (first | exact Below.refl _ _ | refine Below.drew ?_ | refine below_drewN ?_ _ | refine Below.setCell ?_ (by first | omega | (simp; done) | (simp; omega)) _ | refine Below.alloc ?_ (by first | omega | (simp; done) | (simp; omega)) _))
  obtain ⟨a, cap, rfl⟩ := hv.shp
  have X0 := Blk.new w 114 #[.int .i64 0, .int .i64 0]
  have B0 : Below w.heap.size w (w.alloc (.cells #[.int .i64 0, .int .i64 0] 114)) := (by repeat (first | exact Below.refl _ _ | refine Below.drew ?_ | refine below_drewN ?_ _ | refine Below.setCell ?_ (by first | omega | (simp; done) | (simp; omega)) _ | refine Below.alloc ?_ (by first | omega | (simp; done) | (simp; omega)) _))
  by_cases hl : xs.length = 3
  · have KE := impl_elementsFault 256 _ xs _ R0
    have HL : Hid (xs.length = 3) := hl
    rw [hl] at R0 KE ⊢
    clear hl hv hm
    by_cases hgood : okE 256 xs = true
    · rw [show elC 256 xs = 0 from if_pos hgood] at KE
      have HO : Hid (∀ j, j < 3 → 0 ≤ xs.getD j 0 ∧ xs.getD j 0 < 256) := fun j hj => (okE_iff 256 xs).1 hgood j (by rw [HL.out]; exact hj)
      have HA : Hid (agreeR xs = (0, (major xs).2)) := agreeR_ok xs HL.out hgood
      have hmm : ∀ w, (Instr.makeMap 157 (some (.int .i64 3))).run Tryz.prog w = .ok (.map (some w.heap.size)) (w.alloc (.map #[] 0)) := fun w => by kernel_rfl
      have hmf : ∀ (fn : Fn) (first cap : Array Value) (w : World), (Instr.makeFunc fn first cap).run Tryz.prog w = .ok (.func fn first cap) w := fun _ _ _ _ => rfl
      clear hgood
      go_enter Tryz.func98, Tryz.ntmps98
      go_wp2_with fail
      refine KE.mono ?_
      rintro e w' ⟨rfl, rfl⟩
      clear KE
      generalize w.alloc (.cells #[.int .i64 0, .int .i64 0] 114) = w1 at *
      go_wp2_with fail
      obtain ⟨W0, eW0⟩ : ∃ x, x = (w1.alloc (Obj.map #[] 0)).alloc (.cells #[.map (some w1.heap.size)] 157) := ⟨_, rfl⟩
      have T1 : Tel W0 w1.heap.size 3 (fun k => xs.getD k 0) 0 0 := by rw [eW0]; exact World.ownsMap.alloc (World.ownsMap_made w1 _ _ _) _
      have Y1 : Blk W0 (w1.heap.size + 1) 157 #[.map (some w1.heap.size)] := by rw [eW0]; simpa using Blk.new (w1.alloc (Obj.map #[] 0)) 157 #[.map (some w1.heap.size)]
      have X1 : Blk W0 w.heap.size 114 #[.int .i64 0, .int .i64 0] := by rw [eW0]; exact (X0.alloc _).alloc _
      have B1 : Below w.heap.size w W0 := by rw [eW0]; exact (B0.alloc B0.size _).alloc (B0.alloc B0.size _).size _
      have HR : Hid (∀ V, Below w1.heap.size w1 V → Reads V .i64 (.slice a 3 cap) xs) := fun V h => R0.below h
      have hw1 : w.heap.size < w1.heap.size := X0.lt
      have hA1 : Below w1.heap.size w1 W0 := by rw [eW0]; exact ((Below.refl _ w1).alloc (Nat.le_refl _) _).alloc (by simp) _
      have hbW : w1.heap.size ≤ W0.heap.size := hA1.size
      rw [← eW0]
      clear eW0 X0 B0 R0
      generalize w1.heap.size = b at *
      go_loopw [20] (fun c wr => ∃ n : Nat, n ≤ 3 ∧ c = .int .i64 n ∧ Tel wr b 3 (fun k => xs.getD k 0) n n ∧ Blk wr (b + 1) 157 #[.map (some b)] ∧ Off [b] W0 wr) (fun c _ => 3 - (intOf c).toNat)
      case atStart => exact ⟨0, Nat.zero_le _, rfl, T1, Y1, Off.refl _ _⟩
      case round =>
        clear T1 Y1
        obtain ⟨n, hn, rfl, hT, hY, hO⟩ := hrel
        have yl := hY.lt
        by_cases hlt : n < 3
        · have hi : (n : Int) < 3 := by omega
          have hw : (Lit.int .i64 (n : Int)).wf = true := WalkArith.wf_i64 (by omega)
          have hR : Reads wr .i64 (.slice a 3 cap) xs := HR.out _ (hA1.trans (hO.toBelow hbW (by simp)))
          obtain ⟨g2, o2, rfl, hl2, c1⟩ := hR.one n (by rw [HL.out]; exact hlt)
          have hx := HO.out n hlt
          have hv : (Lit.int .i64 (xs.getD n 0)).wf = true := WalkArith.wf_i64 (by omega)
          have HS : Hid ((telU 3 (fun k => xs.getD k 0) n).put (.int .i64 (n : Int)) (.lit (.int .i64 (xs.getD n 0))) = telU 3 (fun k => xs.getD k 0) (n + 1)) := telU_snoc 3 n (fun k => xs.getD k 0) (by omega) (by omega) (by omega)
          have y1 := hY.at.1
          clear hR
          generalize xs.getD n 0 = y at *
          go_wp2_with (at_mapUpdate; refine wpList_mapUpdate_own _ rfl _ _ _ 157 rfl 2 2 keyI Tryz.underlying157 _ b n _ rfl hT (by unfold maxLen; omega) _ _ _ rfl rfl (Go.Maps.keyOf_int_mk Tryz.underlying2 hw) _ [] (plainElem_int Tryz.underlying2 hv) ?_; intro w3 hT3 hg3)
          have hO3 := Off.ofGrown hg3
          go_roundw
          case rel => exact ⟨n + 1, by omega, by go_num, by unfold Tel; rw [← HS.out]; exact hT3, hY.off hO3 (by simp), hO.trans hO3⟩
          case measure => simp [intOf]; omega
        · obtain rfl : n = 3 := by omega
          have hT4 : Tel wr b 3 (fun k => xs.getD k 0) 4 3 := by unfold Tel; rw [← telU_skip 3 3 _ rfl]; exact hT
          have K := impl_orNone_Agree 0 0 (b + 1) b 3 3 _ wr (by omega) hT4 hY
          rw [told4_three HL.out, major_pick HL.out] at K
          have hX := X1.off hO (by simp; omega)
          have hB : Below w.heap.size w wr := B1.trans (hO.toBelow B1.size (by simp; omega))
          clear hT hT4
          generalize (major xs).2 = r at *
          go_wp2_with fail
          refine K.mono ?_
          rintro e w5 ⟨rfl, hb5⟩
          have X5 := hX.keep hb5
          have x1 := X5.at.1
          have x2 := X5.at.2
          have xl := X5.lt
          go_wp2
          exact bodyPost_ret (v := .agg #[.int .i64 0, .int .i64 r]) (by simp [results, Tryz.results98, go_sem, x1]) rfl ⟨by rw [HA.out], (by have zz0 := (hb5).size; (try simp at zz0); have zz1 := (hB).size; (try simp at zz1); repeat (first | exact Below.refl _ _ | refine Below.drew ?_ | refine below_drewN ?_ _ | refine Below.setCell ?_ (by first | omega | (simp; done) | (simp; omega)) _ | refine Below.alloc ?_ (by first | omega | (simp; done) | (simp; omega)) _ | refine bcall ?_ hb5 (by first | omega | (simp; done) | (simp; omega)) | refine bcall ?_ hB (by first | omega | (simp; done) | (simp; omega))))⟩
    · rw [show elC 256 xs = 3 from if_neg hgood] at KE
      have HA : Hid (agreeR xs = (3, 0)) := agreeR_bad xs HL.out hgood
      clear hgood
      go_enter Tryz.func98, Tryz.ntmps98
      go_wp2_with fail
      refine KE.mono ?_
      rintro e w' ⟨rfl, rfl⟩
      clear KE
      go_wp2
      refine bodyPost_ret (v := .agg #[.int .i64 3, .int .i64 0]) (by simp [results, Tryz.results98, go_sem]) rfl ⟨by rw [HA.out], (by have zz0 := (B0).size; (try simp at zz0); repeat (first | exact Below.refl _ _ | refine Below.drew ?_ | refine below_drewN ?_ _ | refine Below.setCell ?_ (by first | omega | (simp; done) | (simp; omega)) _ | refine Below.alloc ?_ (by first | omega | (simp; done) | (simp; omega)) _ | refine bcall ?_ B0 (by first | omega | (simp; done) | (simp; omega))))⟩
  · rw [agreeR_many xs hl]
    have hne : ((xs.length : Int) == 3) = false := by simp; omega
    go_enter Tryz.func98, Tryz.ntmps98
    go_wp2
    exact bodyPost_ret (v := .agg #[.int .i64 2, .int .i64 0]) (by simp [results, Tryz.results98, go_sem]) rfl ⟨rfl, (by repeat (first | exact Below.refl _ _ | refine Below.drew ?_ | refine below_drewN ?_ _ | refine Below.setCell ?_ (by first | omega | (simp; done) | (simp; omega)) _ | refine Below.alloc ?_ (by first | omega | (simp; done) | (simp; omega)) _))⟩
end Go.Proofs.YtbmemdgeohnpnalGreat
