/-
  Contracts of chapter 4: faults of nets: in the program and in its model.
-/
import Derived.Test.YtepobckhfodngaoGreatJnC
import Derived.Test.YtepobckhfodngaoGreatEl
namespace Go.Proofs.YtepobckhfodngaoGreat
open Go.ChangeShapes Go.WideShapes Go.ChangeAt Go.RowKit
set_option linter.unusedVariables false

def okN (xs : List Int) : Bool := xs.all (fun x => decide (0 ≤ x ∧ x ≤ 99999))
theorem okN_iff (xs : List Int) : okN xs = true ↔ ∀ j, j < xs.length → 0 ≤ xs.getD j 0 ∧ xs.getD j 0 ≤ 99999 := by
  unfold okN
  rw [List.all_eq_true]
  constructor
  · intro h j hj
    have := h xs[j] (List.getElem_mem hj)
    simp only [decide_eq_true_eq] at this
    simpa [hj] using this
  · intro h x hx
    obtain ⟨j, hj, rfl⟩ := List.getElem_of_mem hx
    have := h j hj
    simpa [hj] using this
def okM (xss : List (List Int)) : Bool := xss.all okB
theorem okM_iff (xss : List (List Int)) : okM xss = true ↔ ∀ j, j < xss.length → okB (xss.getD j []) = true := by
  unfold okM
  rw [List.all_eq_true]
  constructor
  · intro h j hj
    have := h xss[j] (List.getElem_mem hj)
    simpa [hj] using this
  · intro h x hx
    obtain ⟨j, hj, rfl⟩ := List.getElem_of_mem hx
    have := h j hj
    simpa [hj] using this
def listsB (x : MNet) : Bool := okN x.xUsed && (okM x.xHeard && decide (0 ≤ x.xSent ∧ x.xSent ≤ 99999))
theorem listsB_iff (x : MNet) : listsB x = true ↔ okN x.xUsed = true ∧ okM x.xHeard = true ∧ (0 ≤ x.xSent ∧ x.xSent ≤ 99999) := by
  unfold listsB
  rw [Bool.and_eq_true, Bool.and_eq_true, decide_eq_true_eq]
theorem listsB_no {x : MNet} (h : ¬ (okN x.xUsed = true ∧ okM x.xHeard = true ∧ (0 ≤ x.xSent ∧ x.xSent ≤ 99999))) : listsB x = false := by
  rw [Bool.eq_false_iff]
  exact fun k => h ((listsB_iff x).1 k)
/-- the code of a net -/
def netC (x : MNet) : Int := if tapeC x.xTape = 0 then (if x.xUsed.length = 4 ∧ x.xHeard.length = 4 then (if listsB x = true then cheatC x.xCheat else 3) else 1) else tapeC x.xTape
theorem netC_tape {x : MNet} (h : tapeC x.xTape ≠ 0) : netC x = tapeC x.xTape := if_neg h
theorem netC_form {x : MNet} (h : tapeC x.xTape = 0) (k : ¬ (x.xUsed.length = 4 ∧ x.xHeard.length = 4)) : netC x = 1 := by unfold netC; rw [if_pos h, if_neg k]
theorem netC_lists {x : MNet} (h : tapeC x.xTape = 0) (k : x.xUsed.length = 4 ∧ x.xHeard.length = 4) (l : ¬ listsB x = true) : netC x = 3 := by unfold netC; rw [if_pos h, if_pos k, if_neg l]
theorem netC_cheat {x : MNet} (h : tapeC x.xTape = 0) (k : x.xUsed.length = 4 ∧ x.xHeard.length = 4) (l : listsB x = true) : netC x = cheatC x.xCheat := by unfold netC; rw [if_pos h, if_pos k, if_pos l]
theorem netC_zero {x : MNet} (h : netC x = 0) : tapeC x.xTape = 0 ∧ (x.xUsed.length = 4 ∧ x.xHeard.length = 4) ∧ listsB x = true ∧ cheatC x.xCheat = 0 := by
  by_cases h1 : tapeC x.xTape = 0
  · by_cases h2 : x.xUsed.length = 4 ∧ x.xHeard.length = 4
    · by_cases h3 : listsB x = true
      · exact ⟨h1, h2, h3, by rw [netC_cheat h1 h2 h3] at h; exact h⟩
      · rw [netC_lists h1 h2 h3] at h; cases h
    · rw [netC_form h1 h2] at h; cases h
  · rw [netC_tape h1] at h; exact absurd h h1
set_option maxHeartbeats 4000000 in
theorem spec_l4Lists (b : Nat) (x : MNet) (p0 p1 p2 : Option Addr) (c0 c1 c2 : Nat) (w : World) (hb : Blk w b 41 #[.slice p0 x.xTape.length c0, .slice p1 x.xUsed.length c1, .int .i64 x.xSent, .slice p2 x.xHeard.length c2, .int .i64 x.xCheat.xWho, .int .i64 x.xCheat.xAt, .int .i64 x.xCheat.xBy, .bool x.xCheat.xCry, .bool x.xQuarrel.xSome, .int .i64 x.xQuarrel.xFrom, .int .i64 x.xQuarrel.xCheck, .int .i64 x.xQuarrel.xTo, .int .i64 x.xQuarrel.xTold, .int .i64 x.xQuarrel.xHeard, .int .i64 x.xQuarrel.xOther, .int .i64 x.xQuarrel.xVowed]) (h1 : Reads w .i64 (.slice p1 x.xUsed.length c1) x.xUsed) (h2 : ReadsM w (.slice p2 x.xHeard.length c2) x.xHeard) (l1 : x.xUsed.length = 4) (l2 : x.xHeard.length = 4) :
    Calls Tryz.prog 100 #[.pointer (some ⟨b, 0, none⟩)] w fun e w' => e = .returned (.bool (listsB x)) ∧ w = w' := by
  have a1 : w.cell? ⟨b, 1, none⟩ = some (.slice p1 x.xUsed.length c1) := by rw [hb.at.1]; rfl
  have a2 : w.cell? ⟨b, 2, none⟩ = some (.int .i64 x.xSent) := by rw [hb.at.1]; rfl
  have a3 : w.cell? ⟨b, 3, none⟩ = some (.slice p2 x.xHeard.length c2) := by rw [hb.at.1]; rfl
  have R1 := fun j hj => h1.one j hj
  have R2 := fun j hj => h2.lane j hj
  have L : Hid (x.xUsed.length = 4 ∧ x.xHeard.length = 4) := ⟨l1, l2⟩
  clear hb h1 h2
  rw [l1] at R1 a1
  rw [l2] at R2 a3
  clear l1 l2
  obtain ⟨g1, o1, rfl, _⟩ := R1 0 (by omega)
  obtain ⟨g2, o2, _, _, rfl, _⟩ := R2 0 (by omega)
  go_enter Tryz.func100, Tryz.ntmps100
  go_wp2_with fail
  go_loop [3, 4] (fun i _ => ∃ k : Nat, k ≤ 4 ∧ i = .int .i64 k ∧ ∀ m, m < k → ((0 ≤ x.xUsed.getD m 0 ∧ x.xUsed.getD m 0 ≤ 99999) ∧ okB (x.xHeard.getD m []) = true)) (fun i _ => 4 - (intOf i).toNat)
  case atStart => exact ⟨0, Nat.zero_le _, rfl, fun m hm => by omega⟩
  case round =>
    obtain ⟨k, hk, rfl, hg⟩ := hrel
    by_cases hlt : k < 4
    · obtain ⟨b1, q1, e1, _, d1⟩ := R1 k hlt
      simp only [Option.some.injEq, Addr.mk.injEq, and_true] at e1
      obtain ⟨rfl, rfl⟩ := e1
      obtain ⟨b2, q2, q, d, e2, _, d2, r2⟩ := R2 k hlt
      simp only [Option.some.injEq, Addr.mk.injEq, and_true] at e2
      obtain ⟨rfl, rfl⟩ := e2
      have HG : Hid (∀ m, m < k → ((0 ≤ x.xUsed.getD m 0 ∧ x.xUsed.getD m 0 ≤ 99999) ∧ okB (x.xHeard.getD m []) = true)) := hg
      have hi : (k : Int) < 4 := by omega
      clear hg R1 R2
      by_cases hu : 0 ≤ x.xUsed.getD k 0 ∧ x.xUsed.getD k 0 ≤ 99999
      · have HU : Hid (0 ≤ x.xUsed.getD k 0 ∧ x.xUsed.getD k 0 ≤ 99999) := hu
        generalize hux : x.xUsed.getD k 0 = u at *
        have HX : Hid (x.xUsed.getD k 0 = u) := hux
        clear hux
        generalize hys : x.xHeard.getD k [] = ys at *
        have HY : Hid (x.xHeard.getD k [] = ys) := hys
        clear hys
        have hyl : ys.length ≤ maxLen := r2.le
        unfold maxLen at hyl
        obtain ⟨p', c', hpc, _, hcc⟩ := r2
        simp at hpc
        obtain ⟨rfl, rfl⟩ := hpc
        have step : okB ys = true → Hid (∀ m, m < k + 1 → ((0 ≤ x.xUsed.getD m 0 ∧ x.xUsed.getD m 0 ≤ 99999) ∧ okB (x.xHeard.getD m []) = true)) := fun h m hm => by
          rcases Nat.lt_or_ge m k with h' | h'
          · exact HG.out m h'
          · rw [show m = k by omega, HY.out, HX.out]; exact ⟨HU.out, h⟩
        by_cases hemp : ys = []
        · subst hemp
          have HG' := step rfl
          clear step hcc
          simp only [List.length_nil] at *
          go_wp2_with fail
          refine (spec_l1In_yes _ _ _ _ hu.1 hu.2).mono ?_
          rintro e w' ⟨rfl, rfl⟩
          go_wp2_with fail
          refine wp_loop_rounds 1 ?_
          rw [rounds_succ]
          go_wp2
          go_round
          case rel => exact ⟨k + 1, by omega, by go_num, HG'.out⟩
          case measure => simp [intOf]; omega
        · obtain ⟨h, oh, rfl, hlth, ch⟩ := hcc hemp
          clear hcc
          generalize hn : ys.length = n at *
          have HN0 : Hid (ys.length = n) := hn
          go_wp2_with fail
          refine (spec_l1In_yes _ _ _ _ hu.1 hu.2).mono ?_
          rintro e w' ⟨rfl, rfl⟩
          go_wp2_with fail
          go_loop [4] (fun i => ∃ m : Nat, m ≤ n ∧ i = .int .i64 m ∧ ∀ q, q < m → 0 ≤ ys.getD q 0 ∧ ys.getD q 0 ≤ 255) (fun i => n - (intOf i).toNat)
          case atStart => exact ⟨0, Nat.zero_le _, rfl, fun q hq => by omega⟩
          case round =>
            obtain ⟨m, hm, rfl, hall⟩ := hrel
            by_cases hlt2 : m < n
            · have c1 := ch m hlt2
              have hi2 : (m : Int) < (n : Int) := by omega
              by_cases hgood : 0 ≤ ys.getD m 0 ∧ ys.getD m 0 ≤ 255
              · have HA : Hid (∀ q, q < m + 1 → 0 ≤ ys.getD q 0 ∧ ys.getD q 0 ≤ 255) := fun q hq => by
                  rcases Nat.lt_or_ge q m with h | h
                  · exact hall q h
                  · rw [show q = m by omega]; exact hgood
                clear hall ch step
                generalize ys.getD m 0 = y at *
                go_wp2_with fail
                refine (spec_l1Has_yes _ _ _ (by omega) (by omega) hgood.1 (by omega)).mono ?_
                rintro e w' ⟨rfl, rfl⟩
                go_wp2
                go_round
                case rel => exact ⟨m + 1, by omega, by go_num, HA.out⟩
                case measure => simp [intOf]; omega
              · have hbad : ¬ okB ys = true := fun h => hgood ((okB_iff ys).1 h m (by omega))
                have HN : Hid (listsB x = false) := listsB_no fun h => hbad (by rw [← HY.out]; exact (okM_iff _).1 h.2.1 k (by rw [L.out.2]; exact hlt))
                clear hall ch hbad step
                generalize ys.getD m 0 = y at *
                go_wp2_with fail
                refine (spec_l1Has_no _ _ _ (by omega) (by omega) (by omega)).mono ?_
                rintro e w' ⟨rfl, rfl⟩
                go_wp2
                go_ret
                exact ⟨by rw [HN.out]; rfl, rfl⟩
            · have HG' := step ((okB_iff ys).2 fun q hq => hall q (by omega))
              clear hall ch step
              go_wp2
              go_round
              case rel => exact ⟨k + 1, by omega, by go_num, HG'.out⟩
              case measure => simp [intOf]; omega
      · have HN : Hid (listsB x = false) := listsB_no fun h => hu ((okN_iff _).1 h.1 k (by rw [L.out.1]; exact hlt))
        generalize x.xUsed.getD k 0 = u at *
        clear r2
        go_wp2_with fail
        refine (spec_l1In_no _ _ _ _ (by omega)).mono ?_
        rintro e w' ⟨rfl, rfl⟩
        go_wp2
        go_ret
        exact ⟨by rw [HN.out]; rfl, rfl⟩
    · obtain rfl : k = 4 := by omega
      have hU : okN x.xUsed = true := (okN_iff _).2 fun j hj => (hg j (by rw [L.out.1] at hj; exact hj)).1
      have hH : okM x.xHeard = true := (okM_iff _).2 fun j hj => (hg j (by rw [L.out.2] at hj; exact hj)).2
      by_cases hs : 0 ≤ x.xSent ∧ x.xSent ≤ 99999
      · have HN : Hid (listsB x = true) := (listsB_iff x).2 ⟨hU, hH, hs⟩
        clear hg R1 R2 hU hH
        go_wp2_with fail
        refine (spec_l1In_yes _ _ _ _ hs.1 hs.2).mono ?_
        rintro e w' ⟨rfl, rfl⟩
        go_wp2
        go_ret
        exact ⟨by rw [HN.out]; rfl, rfl⟩
      · have HN : Hid (listsB x = false) := listsB_no fun h => hs h.2.2
        clear hg R1 R2 hU hH
        go_wp2_with fail
        refine (spec_l1In_no _ _ _ _ (by omega)).mono ?_
        rintro e w' ⟨rfl, rfl⟩
        go_wp2
        go_ret
        exact ⟨by rw [HN.out]; rfl, rfl⟩
set_option maxHeartbeats 4000000 in
theorem spec_l4Fault (b : Nat) (x : MNet) (p0 p1 p2 : Option Addr) (c0 c1 c2 : Nat) (w : World) (hb : Blk w b 41 #[.slice p0 x.xTape.length c0, .slice p1 x.xUsed.length c1, .int .i64 x.xSent, .slice p2 x.xHeard.length c2, .int .i64 x.xCheat.xWho, .int .i64 x.xCheat.xAt, .int .i64 x.xCheat.xBy, .bool x.xCheat.xCry, .bool x.xQuarrel.xSome, .int .i64 x.xQuarrel.xFrom, .int .i64 x.xQuarrel.xCheck, .int .i64 x.xQuarrel.xTo, .int .i64 x.xQuarrel.xTold, .int .i64 x.xQuarrel.xHeard, .int .i64 x.xQuarrel.xOther, .int .i64 x.xQuarrel.xVowed]) (h0 : ReadsM w (.slice p0 x.xTape.length c0) x.xTape) (h1 : Reads w .i64 (.slice p1 x.xUsed.length c1) x.xUsed) (h2 : ReadsM w (.slice p2 x.xHeard.length c2) x.xHeard) :
    Calls Tryz.prog 80 #[.pointer (some ⟨b, 0, none⟩)] w fun e w' => e = .returned (.int .i64 (netC x)) ∧ w = w' := by
  have K := spec_l2Fault_at b (.slice p0 x.xTape.length c0) x.xTape w (by rw [hb.at.1]; rfl) h0
  have KL := fun l1 l2 => spec_l4Lists b x p0 p1 p2 c0 c1 c2 w hb h1 h2 l1 l2
  have KC := spec_l4Cheat b 4 x.xCheat w (by rw [hb.at.1]; rfl) (by rw [hb.at.1]; rfl) (by rw [hb.at.1]; rfl)
  have a1 : w.cell? ⟨b, 1, none⟩ = some (.slice p1 x.xUsed.length c1) := by rw [hb.at.1]; rfl
  have a3 : w.cell? ⟨b, 3, none⟩ = some (.slice p2 x.xHeard.length c2) := by rw [hb.at.1]; rfl
  have m1 := h1.le
  unfold maxLen at m1
  have m2 : x.xHeard.length ≤ maxLen := by obtain ⟨_, _, _, h, _⟩ := h2; exact h
  unfold maxLen at m2
  clear hb h0 h1 h2
  by_cases k0 : tapeC x.xTape = 0
  · rw [k0] at K
    by_cases k1 : x.xUsed.length = 4
    · have e1 : ((x.xUsed.length : Int) != 4) = false := by simp; omega
      by_cases k2 : x.xHeard.length = 4
      · have e2 : ((x.xHeard.length : Int) != 4) = false := by simp; omega
        have KL' := KL k1 k2
        clear KL
        by_cases k3 : listsB x = true
        · have HN : Hid (netC x = cheatC x.xCheat) := netC_cheat k0 ⟨k1, k2⟩ k3
          rw [k3] at KL'
          clear k0 k1 k2 k3
          generalize cheatC x.xCheat = r at *
          go_enter Tryz.func80, Tryz.ntmps80
          go_wp2_with fail
          refine K.mono ?_
          rintro e w' ⟨rfl, rfl⟩
          go_wp2_with fail
          refine KL'.mono ?_
          rintro e w' ⟨rfl, rfl⟩
          go_wp2_with fail
          refine KC.mono ?_
          rintro e w' ⟨rfl, rfl⟩
          go_wp2
          go_ret
          exact ⟨by rw [HN.out]; rfl, rfl⟩
        · have HN : Hid (netC x = 3) := netC_lists k0 ⟨k1, k2⟩ k3
          have k3' : listsB x = false := by simpa using k3
          rw [k3'] at KL'
          clear k0 k1 k2 k3 k3' KC
          go_enter Tryz.func80, Tryz.ntmps80
          go_wp2_with fail
          refine K.mono ?_
          rintro e w' ⟨rfl, rfl⟩
          go_wp2_with fail
          refine KL'.mono ?_
          rintro e w' ⟨rfl, rfl⟩
          go_wp2
          go_ret
          exact ⟨by rw [HN.out]; rfl, rfl⟩
      · have e2 : ((x.xHeard.length : Int) != 4) = true := by simp; omega
        have HN : Hid (netC x = 1) := netC_form k0 (by omega)
        clear k0 k1 k2 KC KL
        go_enter Tryz.func80, Tryz.ntmps80
        go_wp2_with fail
        refine K.mono ?_
        rintro e w' ⟨rfl, rfl⟩
        go_wp2
        go_ret
        exact ⟨by rw [HN.out]; rfl, rfl⟩
    · have e1 : ((x.xUsed.length : Int) != 4) = true := by simp; omega
      have HN : Hid (netC x = 1) := netC_form k0 (by omega)
      clear k0 k1 KC KL
      go_enter Tryz.func80, Tryz.ntmps80
      go_wp2_with fail
      refine K.mono ?_
      rintro e w' ⟨rfl, rfl⟩
      go_wp2
      go_ret
      exact ⟨by rw [HN.out]; rfl, rfl⟩
  · have HN : Hid (netC x = tapeC x.xTape) := netC_tape k0
    have hne : (tapeC x.xTape != 0) = true := by simpa using k0
    clear k0 KC KL
    generalize tapeC x.xTape = r at *
    go_enter Tryz.func80, Tryz.ntmps80
    go_wp2_with fail
    refine K.mono ?_
    rintro e w' ⟨rfl, rfl⟩
    go_wp2
    go_ret
    exact ⟨by rw [HN.out]; rfl, rfl⟩
def cntC (x : MNet) : Int := if okN x.xUsed = true ∧ (0 ≤ x.xSent ∧ x.xSent ≤ 99999) then 0 else 3
def hrdC (xss : List (List Int)) : Int := if okM xss = true then 0 else 3
set_option maxHeartbeats 2000000 in
set_option maxRecDepth 100000 in
theorem impl_countsFault (x : MNet) (p0 p1 p2 : Option Addr) (c0 c1 c2 : Nat) (w : World) (h1 : Reads w .i64 (.slice p1 x.xUsed.length c1) x.xUsed) :
    Calls Tryz.prog 114 #[.agg #[.slice p0 x.xTape.length c0, .slice p1 x.xUsed.length c1, .int .i64 x.xSent, .slice p2 x.xHeard.length c2, .int .i64 x.xCheat.xWho, .int .i64 x.xCheat.xAt, .int .i64 x.xCheat.xBy, .bool x.xCheat.xCry, .bool x.xQuarrel.xSome, .int .i64 x.xQuarrel.xFrom, .int .i64 x.xQuarrel.xCheck, .int .i64 x.xQuarrel.xTo, .int .i64 x.xQuarrel.xTold, .int .i64 x.xQuarrel.xHeard, .int .i64 x.xQuarrel.xOther, .int .i64 x.xQuarrel.xVowed]] w fun e w' => e = .returned (.int .i64 (cntC x)) ∧ Below w.heap.size w w' := by
  have B0 : Below w.heap.size w (w.alloc (.cells #[.slice p0 x.xTape.length c0, .slice p1 x.xUsed.length c1, .int .i64 x.xSent, .slice p2 x.xHeard.length c2, .int .i64 x.xCheat.xWho, .int .i64 x.xCheat.xAt, .int .i64 x.xCheat.xBy, .bool x.xCheat.xCry, .bool x.xQuarrel.xSome, .int .i64 x.xQuarrel.xFrom, .int .i64 x.xQuarrel.xCheck, .int .i64 x.xQuarrel.xTo, .int .i64 x.xQuarrel.xTold, .int .i64 x.xQuarrel.xHeard, .int .i64 x.xQuarrel.xOther, .int .i64 x.xQuarrel.xVowed] 41)) := (by repeat (first | exact Below.refl _ _ | refine Below.drew ?_ | refine below_drewN ?_ _ | refine Below.setCell ?_ (by first | omega | (simp; done) | (simp; omega)) _ | refine Below.alloc ?_ (by first | omega | (simp; done) | (simp; omega)) _))
  have h1' := h1.below B0
  have hm := h1.le
  unfold maxLen at hm
  clear h1
  by_cases hs : 0 ≤ x.xSent ∧ x.xSent ≤ 99999
  · obtain ⟨p', c', hpc, _, hcc⟩ := h1'
    simp at hpc
    obtain ⟨rfl, rfl⟩ := hpc
    by_cases hemp : x.xUsed = []
    · have HN : Hid (cntC x = 0) := if_pos ⟨by rw [hemp]; rfl, hs⟩
      have hl : x.xUsed.length = 0 := by rw [hemp]; rfl
      rw [hl] at B0 ⊢
      clear hcc hemp
      go_enter Tryz.func114, Tryz.ntmps114
      go_wp2_with fail
      refine (impl_isCount_yes _ _ hs).mono ?_
      rintro e w' ⟨rfl, rfl⟩
      go_wp2
      refine wp_loop_rounds 1 ?_
      rw [rounds_succ]
      go_wp2
      go_ret
      exact ⟨by rw [HN.out]; rfl, B0⟩
    · obtain ⟨g, o, rfl, hlt0, hc⟩ := hcc hemp
      clear hcc hemp
      generalize hn : x.xUsed.length = n at *
      have HL : Hid (x.xUsed.length = n) := hn
      clear hn
      go_enter Tryz.func114, Tryz.ntmps114
      go_wp2_with fail
      refine (impl_isCount_yes _ _ hs).mono ?_
      rintro e w' ⟨rfl, rfl⟩
      go_wp2
      go_loop [4, 12] (fun _ i => ∃ k : Nat, k ≤ n ∧ i = .int .i64 k ∧ ∀ q, q < k → 0 ≤ x.xUsed.getD q 0 ∧ x.xUsed.getD q 0 ≤ 99999) (fun _ i => n - (intOf i).toNat)
      case atStart => exact ⟨0, Nat.zero_le _, rfl, fun q hq => by omega⟩
      case round =>
        obtain ⟨k, hk, rfl, hall⟩ := hrel
        by_cases hlt : k < n
        · have c1 := hc k hlt
          have hi : (k : Int) < (n : Int) := by omega
          by_cases hgood : 0 ≤ x.xUsed.getD k 0 ∧ x.xUsed.getD k 0 ≤ 99999
          · have HA : Hid (∀ q, q < k + 1 → 0 ≤ x.xUsed.getD q 0 ∧ x.xUsed.getD q 0 ≤ 99999) := fun q hq => by
              rcases Nat.lt_or_ge q k with h | h
              · exact hall q h
              · rw [show q = k by omega]; exact hgood
            clear hall hc
            generalize x.xUsed.getD k 0 = y at *
            go_wp2_with fail
            refine (impl_isCount_yes _ _ hgood).mono ?_
            rintro e w' ⟨rfl, rfl⟩
            go_wp2
            go_round
            case rel => exact ⟨k + 1, by omega, by go_num, HA.out⟩
            case measure => simp [intOf]; omega
          · have HN : Hid (cntC x = 3) := if_neg (fun h => hgood ((okN_iff _).1 h.1 k (by rw [HL.out]; exact hlt)))
            clear hall hc
            generalize x.xUsed.getD k 0 = y at *
            go_wp2_with fail
            refine (impl_isCount_no _ _ hgood).mono ?_
            rintro e w' ⟨rfl, rfl⟩
            go_wp2
            go_ret
            exact ⟨by rw [HN.out]; rfl, B0⟩
        · have HN : Hid (cntC x = 0) := if_pos ⟨(okN_iff _).2 fun q hq => hall q (by rw [HL.out] at hq; omega), hs⟩
          clear hall hc
          go_wp2
          go_ret
          exact ⟨by rw [HN.out]; rfl, B0⟩
  · have HN : Hid (cntC x = 3) := if_neg (fun h => hs h.2)
    clear h1'
    go_enter Tryz.func114, Tryz.ntmps114
    go_wp2_with fail
    refine (impl_isCount_no _ _ hs).mono ?_
    rintro e w' ⟨rfl, rfl⟩
    go_wp2
    go_ret
    exact ⟨by rw [HN.out]; rfl, B0⟩
theorem okB_el (xs : List Int) : okB xs = true ↔ okE 256 xs = true := by
  rw [okB_iff, okE_iff]
  exact ⟨fun h j hj => by have := h j hj; omega, fun h j hj => by have := h j hj; omega⟩
set_option maxHeartbeats 2000000 in
theorem impl_heardFault (v : Value) (xss : List (List Int)) (w : World) (hv : ReadsM w v xss) :
    Calls Tryz.prog 115 #[v] w fun e w' => e = .returned (.int .i64 (hrdC xss)) ∧ w = w' := by
  obtain ⟨a, cap, rfl, hm, hA⟩ := hv
  unfold maxLen at hm
  by_cases hx : xss = []
  · subst hx
    simp only [List.length_nil]
    clear hA hm
    go_enter Tryz.func115, Tryz.ntmps115
    go_wp2
    refine wp_loop_rounds 1 ?_
    rw [rounds_succ]
    go_wp2
    go_ret
    exact ⟨rfl, rfl⟩
  · obtain ⟨g, o, rfl, hlt0, hc⟩ := hA hx
    clear hA hx
    generalize hn : xss.length = n at *
    have HL : Hid (xss.length = n) := hn
    clear hn
    go_enter Tryz.func115, Tryz.ntmps115
    go_wp2
    go_loop [4, 5, 8] (fun _ _ i => ∃ k : Nat, k ≤ n ∧ i = .int .i64 k ∧ ∀ m, m < k → okB (xss.getD m []) = true) (fun _ _ i => n - (intOf i).toNat)
    case atStart => exact ⟨0, Nat.zero_le _, rfl, fun m hm => by omega⟩
    case round =>
      obtain ⟨k, hk, rfl, hg⟩ := hrel
      by_cases hlt : k < n
      · obtain ⟨p, c, c0, hr⟩ := hc k hlt
        have HG : Hid (∀ m, m < k → okB (xss.getD m []) = true) := hg
        have hi : (k : Int) < (n : Int) := by omega
        clear hg hc
        generalize hys : xss.getD k [] = ys at *
        have HY : Hid (xss.getD k [] = ys) := hys
        clear hys
        have K := impl_elementsFault 256 _ ys w hr
        by_cases hok : okE 256 ys = true
        · have HG' : Hid (∀ m, m < k + 1 → okB (xss.getD m []) = true) := fun m hm => by
            rcases Nat.lt_or_ge m k with h' | h'
            · exact HG.out m h'
            · rw [show m = k by omega, HY.out]; exact (okB_el ys).2 hok
          rw [show elC 256 ys = 0 from if_pos hok] at K
          clear hok hr
          go_wp2_with fail
          refine K.mono ?_
          rintro e w' ⟨rfl, rfl⟩
          go_wp2
          go_round
          case rel => exact ⟨k + 1, by omega, by go_num, HG'.out⟩
          case measure => simp [intOf]; omega
        · have HN : Hid (hrdC xss = 3) := if_neg fun h => hok ((okB_el ys).1 (by rw [← HY.out]; exact (okM_iff _).1 h k (by rw [HL.out]; exact hlt)))
          rw [show elC 256 ys = 3 from if_neg hok] at K
          clear hok hr
          go_wp2_with fail
          refine K.mono ?_
          rintro e w' ⟨rfl, rfl⟩
          go_wp2
          go_ret
          exact ⟨by rw [HN.out]; rfl, rfl⟩
      · have HN : Hid (hrdC xss = 0) := if_pos ((okM_iff _).2 fun j hj => hg j (by rw [HL.out] at hj; omega))
        clear hg hc
        go_wp2
        go_ret
        exact ⟨by rw [HN.out]; rfl, rfl⟩
set_option maxHeartbeats 4000000 in
set_option maxRecDepth 100000 in
theorem impl_NetFault (v : Value) (x : MNet) (w : World) (hv : RdNet w v x) :
    Calls Tryz.prog 91 #[v] w fun e w' => e = .returned (.int .i64 (netC x)) ∧ Below w.heap.size w w' := by
  obtain ⟨p0, c0, p1, c1, p2, c2, rfl, h0, h1, h2⟩ := hv
  have B0 : Below w.heap.size w (w.alloc (.cells #[.slice p0 x.xTape.length c0, .slice p1 x.xUsed.length c1, .int .i64 x.xSent, .slice p2 x.xHeard.length c2, .int .i64 x.xCheat.xWho, .int .i64 x.xCheat.xAt, .int .i64 x.xCheat.xBy, .bool x.xCheat.xCry, .bool x.xQuarrel.xSome, .int .i64 x.xQuarrel.xFrom, .int .i64 x.xQuarrel.xCheck, .int .i64 x.xQuarrel.xTo, .int .i64 x.xQuarrel.xTold, .int .i64 x.xQuarrel.xHeard, .int .i64 x.xQuarrel.xOther, .int .i64 x.xQuarrel.xVowed] 41)) := (by repeat (first | exact Below.refl _ _ | refine Below.drew ?_ | refine below_drewN ?_ _ | refine Below.setCell ?_ (by first | omega | (simp; done) | (simp; omega)) _ | refine Below.alloc ?_ (by first | omega | (simp; done) | (simp; omega)) _))
  have X0 := Blk.new w 41 #[.slice p0 x.xTape.length c0, .slice p1 x.xUsed.length c1, .int .i64 x.xSent, .slice p2 x.xHeard.length c2, .int .i64 x.xCheat.xWho, .int .i64 x.xCheat.xAt, .int .i64 x.xCheat.xBy, .bool x.xCheat.xCry, .bool x.xQuarrel.xSome, .int .i64 x.xQuarrel.xFrom, .int .i64 x.xQuarrel.xCheck, .int .i64 x.xQuarrel.xTo, .int .i64 x.xQuarrel.xTold, .int .i64 x.xQuarrel.xHeard, .int .i64 x.xQuarrel.xOther, .int .i64 x.xQuarrel.xVowed]
  have K := fun W h => impl_TapeFault (.slice p0 x.xTape.length c0) x.xTape W h
  have m1 := h1.le
  unfold maxLen at m1
  have m2 : x.xHeard.length ≤ maxLen := by obtain ⟨_, _, _, h, _⟩ := h2; exact h
  unfold maxLen at m2
  by_cases k0 : tapeC x.xTape = 0
  · rw [k0] at K
    by_cases k1 : x.xUsed.length = 4
    · have e1 : ((x.xUsed.length : Int) != 4) = false := by simp; omega
      by_cases k2 : x.xHeard.length = 4
      · have e2 : ((x.xHeard.length : Int) != 4) = false := by simp; omega
        have KC := fun W h => impl_countsFault x p0 p1 p2 c0 c1 c2 W h
        by_cases k3 : okN x.xUsed = true ∧ (0 ≤ x.xSent ∧ x.xSent ≤ 99999)
        · rw [show cntC x = 0 from if_pos k3] at KC
          have KH := fun W h => impl_heardFault (.slice p2 x.xHeard.length c2) x.xHeard W h
          by_cases k4 : okM x.xHeard = true
          · rw [show hrdC x.xHeard = 0 from if_pos k4] at KH
            have HN : Hid (netC x = cheatC x.xCheat) := netC_cheat k0 ⟨k1, k2⟩ ((listsB_iff x).2 ⟨k3.1, k4, k3.2⟩)
            have KF := fun W => impl_CheatFault (.agg #[.int .i64 x.xCheat.xWho, .int .i64 x.xCheat.xAt, .int .i64 x.xCheat.xBy, .bool x.xCheat.xCry]) x.xCheat W rfl
            clear k0 k1 k2 k3 k4
            generalize cheatC x.xCheat = r at *
            go_enter Tryz.func91, Tryz.ntmps91
            go_wp2_with fail
            refine (K _ (h0.below B0)).mono ?_
            rintro e w1 ⟨rfl, hb1⟩
            replace X0 := X0.keep hb1
            replace B0 : Below w.heap.size w w1 := B0.trans (hb1.mono B0.size)
            have xa := X0.at.1
            have xl := X0.lt
            go_wp2_with fail
            clear xa xl
            refine (KC _ (h1.below B0)).mono ?_
            rintro e w2 ⟨rfl, hb2⟩
            replace X0 := X0.keep hb2
            replace B0 : Below w.heap.size w w2 := B0.trans (hb2.mono B0.size)
            have xa := X0.at.1
            have xl := X0.lt
            go_wp2_with fail
            clear xa xl
            refine (KH _ (h2.below B0)).mono ?_
            rintro e w' ⟨rfl, rfl⟩
            have xa := X0.at.1
            have xl := X0.lt
            go_wp2_with fail
            clear xa xl
            refine (KF _).mono ?_
            rintro e w4 ⟨rfl, hb4⟩
            replace B0 : Below w.heap.size w w4 := B0.trans (hb4.mono B0.size)
            go_wp2
            go_ret
            exact ⟨by rw [HN.out]; rfl, B0⟩
          · rw [show hrdC x.xHeard = 3 from if_neg k4] at KH
            have HN : Hid (netC x = 3) := netC_lists k0 ⟨k1, k2⟩ (fun h => k4 ((listsB_iff x).1 h).2.1)
            clear k0 k1 k2 k3 k4
            go_enter Tryz.func91, Tryz.ntmps91
            go_wp2_with fail
            refine (K _ (h0.below B0)).mono ?_
            rintro e w1 ⟨rfl, hb1⟩
            replace X0 := X0.keep hb1
            replace B0 : Below w.heap.size w w1 := B0.trans (hb1.mono B0.size)
            have xa := X0.at.1
            have xl := X0.lt
            go_wp2_with fail
            clear xa xl
            refine (KC _ (h1.below B0)).mono ?_
            rintro e w2 ⟨rfl, hb2⟩
            replace X0 := X0.keep hb2
            replace B0 : Below w.heap.size w w2 := B0.trans (hb2.mono B0.size)
            have xa := X0.at.1
            have xl := X0.lt
            go_wp2_with fail
            clear xa xl
            refine (KH _ (h2.below B0)).mono ?_
            rintro e w' ⟨rfl, rfl⟩
            go_wp2
            go_ret
            exact ⟨by rw [HN.out]; rfl, B0⟩
        · rw [show cntC x = 3 from if_neg k3] at KC
          have HN : Hid (netC x = 3) := netC_lists k0 ⟨k1, k2⟩ (fun h => k3 ⟨((listsB_iff x).1 h).1, ((listsB_iff x).1 h).2.2⟩)
          clear k0 k1 k2 k3
          go_enter Tryz.func91, Tryz.ntmps91
          go_wp2_with fail
          refine (K _ (h0.below B0)).mono ?_
          rintro e w1 ⟨rfl, hb1⟩
          replace X0 := X0.keep hb1
          replace B0 : Below w.heap.size w w1 := B0.trans (hb1.mono B0.size)
          have xa := X0.at.1
          have xl := X0.lt
          go_wp2_with fail
          clear xa xl
          refine (KC _ (h1.below B0)).mono ?_
          rintro e w2 ⟨rfl, hb2⟩
          replace X0 := X0.keep hb2
          replace B0 : Below w.heap.size w w2 := B0.trans (hb2.mono B0.size)
          have xa := X0.at.1
          have xl := X0.lt
          go_wp2
          go_ret
          exact ⟨by rw [HN.out]; rfl, B0⟩
      · have e2 : ((x.xHeard.length : Int) != 4) = true := by simp; omega
        have HN : Hid (netC x = 1) := netC_form k0 (by omega)
        clear k0 k1 k2
        go_enter Tryz.func91, Tryz.ntmps91
        go_wp2_with fail
        refine (K _ (h0.below B0)).mono ?_
        rintro e w1 ⟨rfl, hb1⟩
        replace X0 := X0.keep hb1
        replace B0 : Below w.heap.size w w1 := B0.trans (hb1.mono B0.size)
        have xa := X0.at.1
        have xl := X0.lt
        go_wp2
        go_ret
        exact ⟨by rw [HN.out]; rfl, B0⟩
    · have e1 : ((x.xUsed.length : Int) != 4) = true := by simp; omega
      have HN : Hid (netC x = 1) := netC_form k0 (by omega)
      clear k0 k1
      go_enter Tryz.func91, Tryz.ntmps91
      go_wp2_with fail
      refine (K _ (h0.below B0)).mono ?_
      rintro e w1 ⟨rfl, hb1⟩
      replace X0 := X0.keep hb1
      replace B0 : Below w.heap.size w w1 := B0.trans (hb1.mono B0.size)
      have xa := X0.at.1
      have xl := X0.lt
      go_wp2
      go_ret
      exact ⟨by rw [HN.out]; rfl, B0⟩
  · have HN : Hid (netC x = tapeC x.xTape) := netC_tape k0
    have hne : (tapeC x.xTape != 0) = true := by simpa using k0
    clear k0
    generalize tapeC x.xTape = r at *
    go_enter Tryz.func91, Tryz.ntmps91
    go_wp2_with fail
    refine (K _ (h0.below B0)).mono ?_
    rintro e w1 ⟨rfl, hb1⟩
    replace X0 := X0.keep hb1
    replace B0 : Below w.heap.size w w1 := B0.trans (hb1.mono B0.size)
    have xa := X0.at.1
    have xl := X0.lt
    go_wp2
    go_ret
    exact ⟨by rw [HN.out]; rfl, B0⟩
end Go.Proofs.YtepobckhfodngaoGreat
