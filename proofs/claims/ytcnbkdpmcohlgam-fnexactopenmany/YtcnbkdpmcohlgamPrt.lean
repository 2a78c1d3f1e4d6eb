/-
  Contracts of chapter 6 of the program: parts that are told.
-/
import Derived.Test.YtcnbkdpmcohlgamOrn
import Derived.Test.YtcnbkdpmcohlgamJnS
import Derived.Test.YtcnbkdpmcohlgamMirK
namespace Go.Proofs.Ytcnbkdpmcohlgam
open Go.ChangeShapes Go.WideShapes Go.ChangeAt Go.RowKit
set_option linter.unusedVariables false
/-- what is told where 'who' adds by -/
def lieF (f : Nat → Int) (q who by' : Int) : Nat → Int := fun k => if (k : Int) = who then (f k + by') % q else f k
theorem telU_congr {part n : Nat} {f g : Nat → Int} (h : ∀ k, k < n → k ≠ part → f k = g k) : telU part f n = telU part g n := by
  unfold telU
  congr 1
  refine List.map_congr_left fun k hk => ?_
  simp at hk
  rw [h k hk.1 hk.2]
theorem told4_congr {part n : Nat} {f g : Nat → Int} (h : ∀ k, k < n → k ≠ part → f k = g k) : told4 part f n = told4 part g n := by
  induction n with
  | zero => rfl
  | succ n ih =>
    rw [told4, told4, ih (fun k hk hn => h k (by omega) hn)]
    by_cases hn : n = part
    · rw [if_neg (by omega), if_neg (by omega)]
    · rw [if_pos hn, if_pos hn, h n (by omega) hn]
/-- part 'part' as each has it -/
def partF (xss : List (List Int)) (part : Nat) : Nat → Int := fun k => (xss.getD k []).getD part 0
def partM (q : Int) (xss : List (List Int)) (part : Nat) (who by' : Int) : Int × Int := major (told4 part (lieF (partF xss part) q who by') 4)
set_option maxHeartbeats 1000000 in
theorem impl_lie (b part m : Nat) (f : Nat → Int) (q who by' : Int) (w : World) (hp : part < 4) (hm : m < 100) (hq : q = 2 ∨ q = 256) (hf : ∀ k, k < 4 → 0 ≤ f k ∧ f k < q) (hwho : -1 ≤ who ∧ who ≤ 3) (hby : 0 ≤ by' ∧ by' ≤ 255) (h : Tel w b part f 4 m) :
    Calls Try.prog 83 #[.map (some b), .int .i64 q, .int .i64 who, .int .i64 by'] w fun e w' => e = .returned (.tuple #[]) ∧ Tel w' b part (lieF f q who by') 4 (m + 1) ∧ Off [b] w w' := by
  have hw : (Lit.int .i64 who).wf = true := WalkArith.wf_i64 (by omega)
  by_cases hin : 0 ≤ who ∧ who ≠ (part : Int)
  · obtain ⟨n, rfl⟩ : ∃ n : Nat, who = n := ⟨who.toNat, by omega⟩
    have HH : Hid (Go.Maps.has (telU part f 4) (.int .i64 (n : Int)) = true) := telU_has part n f hp (by omega) (by omega)
    have HA : Hid ((telU part f 4).atKey (.int .i64 (n : Int)) (.lit (.int .i64 0)) = .lit (.int .i64 (f n))) := telU_at part n f _ hp (by omega) (by omega)
    have hfn := hf n (by omega)
    have HP : Hid ((telU part f 4).put (.int .i64 (n : Int)) (.lit (.int .i64 ((f n + by') % q))) = telU part (lieF f q n by') 4) := by
      show _ = _
      rw [telU_put part n f _ hp (by omega) (by omega)]
      refine telU_congr fun k hk hn => ?_
      unfold lieF
      by_cases e : k = n
      · subst e; rw [if_pos rfl, if_pos rfl]
      · rw [if_neg e, if_neg (by omega)]
    have KT := fun V => impl_turned ⟨0, 0, by', false⟩ q (f n) V hq hfn hby
    dsimp only at KT
    have hr1 : 0 ≤ (f n + by') % q := Int.emod_nonneg _ (by omega)
    have hr2 : (f n + by') % q < q := Int.emod_lt_of_pos _ (by omega)
    have hv : (Lit.int .i64 ((f n + by') % q)).wf = true := WalkArith.wf_i64 (by omega)
    generalize hrr : (f n + by') % q = r at *
    clear hrr hf hin hwho
    generalize f n = y at *
    go_enter Try.func83, Try.ntmps83
    go_wp2_with (first | (at_lookup; refine wpList_lookup_own_ok_int _ rfl _ _ 105 rfl 2 2 .i64 keyI Try.underlying105 Try.underlying2 (zeroI _) b m _ rfl h _ _ rfl (Go.Maps.keyOf_int_mk Try.underlying2 hw) ?_; intro c hat hwc; rw [HH.out]; obtain rfl := lit_inj (HA.out.symm.trans hat)))
    refine (KT _).mono ?_
    rintro e w2 ⟨rfl, hb2⟩
    have h2 : Tel w2 b part f 4 m := h.keep hb2
    go_wp2_with (at_mapUpdate; refine wpList_mapUpdate_own _ rfl _ _ _ 105 rfl 2 2 keyI Try.underlying105 _ b m _ rfl h2 (by unfold maxLen; omega) _ _ _ rfl rfl (Go.Maps.keyOf_int_mk Try.underlying2 hw) _ [] (plainElem_int Try.underlying2 hv) ?_; intro w3 hT3 hg3)
    have hO3 := Off.ofGrown hg3
    first | go_end0 | refine bodyPost_ret (results_none rfl _ _ _) rfl ?_
    exact ⟨rfl, by unfold Tel; rw [← HP.out]; exact hT3, (Off.ofBelow hb2).trans hO3⟩
  · have HH : Hid (Go.Maps.has (telU part f 4) (.int .i64 who) = false) := telU_hasnt part who f hp (by omega)
    have HT : Hid (Tel w b part (lieF f q who by') 4 (m + 1)) := by
      have e : telU part (lieF f q who by') 4 = telU part f 4 := telU_congr fun k hk hn => by unfold lieF; rw [if_neg (by omega)]
      show Tel _ _ _ _ _ _
      unfold Tel
      rw [e]
      exact World.ownsMap.mono h (Nat.le_succ _)
    clear hin hwho hf
    go_enter Try.func83, Try.ntmps83
    go_wp2_with (first | (at_lookup; refine wpList_lookup_own_ok_int _ rfl _ _ 105 rfl 2 2 .i64 keyI Try.underlying105 Try.underlying2 (zeroI _) b m _ rfl h _ _ rfl (Go.Maps.keyOf_int_mk Try.underlying2 hw) ?_; intro c hat hwc; rw [HH.out]))
    first | go_end0 | refine bodyPost_ret (results_none rfl _ _ _) rfl ?_
    exact ⟨rfl, HT.out, Off.refl _ _⟩
set_option maxHeartbeats 4000000 in
set_option maxRecDepth 100000 in
theorem impl_views_told (xss : List (List Int)) (part : Nat) (w : World) (hs : Sq xss) (hp : part < 4) (hr : ∀ k, k < 4 → -9223372036854775808 ≤ partF xss part k ∧ partF xss part k ≤ 9223372036854775807) :
    Calls Try.prog 82 #[ag2 xss, .int .i64 part] w fun e w' => ∃ b, e = .returned (.map (some b)) ∧ Tel w' b part (partF xss part) 4 4 ∧ w.heap.size ≤ b ∧ Below w.heap.size w w' := by
  have hmm : ∀ w, (Instr.makeMap 105 (some (.int .i64 4))).run Try.prog w = .ok (.map (some w.heap.size)) (w.alloc (.map #[] 0)) := fun w => by kernel_rfl
  obtain ⟨a0, a1, a2, a3, b0, b1, b2, b3, c0, c1, c2, c3, d0, d1, d2, d3, rfl⟩ := hs.lit
  have HW : Hid (∀ k, k < 4 → (Lit.int .i64 (partF [[a0, a1, a2, a3], [b0, b1, b2, b3], [c0, c1, c2, c3], [d0, d1, d2, d3]] part k)).wf = true) := fun k hk => WalkArith.wf_i64 (hr k hk)
  clear hr hs
  have HSN : Hid (∀ n, n < 4 → n ≠ part → _) := fun n hn h => telU_snoc part n (partF [[a0, a1, a2, a3], [b0, b1, b2, b3], [c0, c1, c2, c3], [d0, d1, d2, d3]] part) hp hn h
  have HSK : Hid (∀ n, n = part → _) := fun n h => telU_skip part n (partF [[a0, a1, a2, a3], [b0, b1, b2, b3], [c0, c1, c2, c3], [d0, d1, d2, d3]] part) h
  obtain ⟨W0, eW0⟩ : ∃ x, x = (w.alloc (.cells #[.int .i64 a0, .int .i64 a1, .int .i64 a2, .int .i64 a3, .int .i64 b0, .int .i64 b1, .int .i64 b2, .int .i64 b3, .int .i64 c0, .int .i64 c1, .int .i64 c2, .int .i64 c3, .int .i64 d0, .int .i64 d1, .int .i64 d2, .int .i64 d3] 72)).alloc (Obj.map #[] 0) := ⟨_, rfl⟩
  have T0 : Tel W0 (w.heap.size + 1) part (partF [[a0, a1, a2, a3], [b0, b1, b2, b3], [c0, c1, c2, c3], [d0, d1, d2, d3]] part) 0 0 := by
    have := World.ownsMap_made (w.alloc (.cells #[.int .i64 a0, .int .i64 a1, .int .i64 a2, .int .i64 a3, .int .i64 b0, .int .i64 b1, .int .i64 b2, .int .i64 b3, .int .i64 c0, .int .i64 c1, .int .i64 c2, .int .i64 c3, .int .i64 d0, .int .i64 d1, .int .i64 d2, .int .i64 d3] 72)) Try.prog 2 (plainElem (H := Unit) Try.prog 2)
    rw [show (w.alloc (.cells #[.int .i64 a0, .int .i64 a1, .int .i64 a2, .int .i64 a3, .int .i64 b0, .int .i64 b1, .int .i64 b2, .int .i64 b3, .int .i64 c0, .int .i64 c1, .int .i64 c2, .int .i64 c3, .int .i64 d0, .int .i64 d1, .int .i64 d2, .int .i64 d3] 72)).heap.size = w.heap.size + 1 by simp] at this
    rw [eW0]; exact this
  have B0 : Below w.heap.size w W0 := by rw [eW0]; exact (by repeat (first | exact Below.refl _ _ | refine Below.drew ?_ | refine below_drewN ?_ _ | refine Below.setCell ?_ (by first | omega | (simp; done) | (simp; omega)) _ | refine Below.alloc ?_ (by first | omega | (simp; done) | (simp; omega)) _))
  rw [show ag2 [[a0, a1, a2, a3], [b0, b1, b2, b3], [c0, c1, c2, c3], [d0, d1, d2, d3]] = .agg #[.int .i64 a0, .int .i64 a1, .int .i64 a2, .int .i64 a3, .int .i64 b0, .int .i64 b1, .int .i64 b2, .int .i64 b3, .int .i64 c0, .int .i64 c1, .int .i64 c2, .int .i64 c3, .int .i64 d0, .int .i64 d1, .int .i64 d2, .int .i64 d3] from rfl]
  have HRW : Hid (∀ n, n < 4 → ∃ r0 r1 r2 r3, [[a0, a1, a2, a3], [b0, b1, b2, b3], [c0, c1, c2, c3], [d0, d1, d2, d3]].getD n [] = [r0, r1, r2, r3] ∧ ∀ w, (Instr.index 72 (.agg #[.int .i64 a0, .int .i64 a1, .int .i64 a2, .int .i64 a3, .int .i64 b0, .int .i64 b1, .int .i64 b2, .int .i64 b3, .int .i64 c0, .int .i64 c1, .int .i64 c2, .int .i64 c3, .int .i64 d0, .int .i64 d1, .int .i64 d2, .int .i64 d3]) (.int .i64 (n : Int))).run Try.prog w = .ok (.agg #[.int .i64 r0, .int .i64 r1, .int .i64 r2, .int .i64 r3]) w) := by
    intro n hn
    obtain ⟨r0, r1, r2, r3, h⟩ := (Sq.of a0 a1 a2 a3 b0 b1 b2 b3 c0 c1 c2 c3 d0 d1 d2 d3).row n hn
    exact ⟨r0, r1, r2, r3, h, fun w => run_row _ _ _ _ _ _ _ _ _ _ _ _ _ _ _ _ n hn r0 r1 r2 r3 h w⟩
  obtain rfl | rfl | rfl | rfl : part = 0 ∨ part = 1 ∨ part = 2 ∨ part = 3 := by omega
  · show Calls _ _ #[_, .int .i64 0] _ _
    go_enter Try.func82, Try.ntmps82
    go_wp2_with fail
    rw [← eW0]
    clear eW0
    go_loopw [10] (fun c wr => ∃ n : Nat, n ≤ 4 ∧ c = .int .i64 n ∧ Tel wr (w.heap.size + 1) 0 (partF [[a0, a1, a2, a3], [b0, b1, b2, b3], [c0, c1, c2, c3], [d0, d1, d2, d3]] 0) n n ∧ Below w.heap.size w wr) (fun c _ => 4 - (intOf c).toNat)
    case atStart => exact ⟨0, Nat.zero_le _, rfl, T0, B0⟩
    case round =>
      clear T0 B0
      obtain ⟨n, hn, rfl, hT, hB⟩ := hrel
      have tl := hT.lt
      by_cases hlt : n < 4
      · obtain ⟨r0, r1, r2, r3, hrow, hix⟩ := HRW.out n hlt
        have hi : (n : Int) < 4 := by omega
        by_cases h1 : n = 0
        · have e1 : ((n : Int) != 0) = false := by subst h1; rfl
          have HK : Hid (telU 0 (partF [[a0, a1, a2, a3], [b0, b1, b2, b3], [c0, c1, c2, c3], [d0, d1, d2, d3]] 0) n = telU 0 (partF [[a0, a1, a2, a3], [b0, b1, b2, b3], [c0, c1, c2, c3], [d0, d1, d2, d3]] 0) (n + 1)) := HSK.out n h1
          clear h1 hrow
          go_wp2_with fail
          go_roundw
          case rel => exact ⟨n + 1, by omega, by go_num, by unfold Tel; rw [← HK.out]; exact World.ownsMap.mono (World.ownsMap.alloc hT _) (by omega), (by have zz0 := (hB).size; (try simp at zz0); repeat (first | exact Below.refl _ _ | refine Below.drew ?_ | refine below_drewN ?_ _ | refine Below.setCell ?_ (by first | omega | (simp; done) | (simp; omega)) _ | refine Below.alloc ?_ (by first | omega | (simp; done) | (simp; omega)) _ | refine bcall ?_ hB (by first | omega | (simp; done) | (simp; omega))))⟩
          case measure => simp [intOf]; omega
        · have e1 : ((n : Int) != 0) = true := by simpa using (show ¬ (n : Int) = 0 by omega)
          have hy : partF [[a0, a1, a2, a3], [b0, b1, b2, b3], [c0, c1, c2, c3], [d0, d1, d2, d3]] 0 n = r0 := by show List.getD (List.getD _ _ _) _ _ = _; rw [hrow]; rfl
          have HK : Hid ((telU 0 (partF [[a0, a1, a2, a3], [b0, b1, b2, b3], [c0, c1, c2, c3], [d0, d1, d2, d3]] 0) n).put (.int .i64 (n : Int)) (.lit (.int .i64 r0)) = telU 0 (partF [[a0, a1, a2, a3], [b0, b1, b2, b3], [c0, c1, c2, c3], [d0, d1, d2, d3]] 0) (n + 1)) := by have := HSN.out n hlt h1; rw [hy] at this; exact this
          have hw : (Lit.int .i64 r0).wf = true := by rw [← hy]; exact HW.out n hlt
          have hk : (Lit.int .i64 (n : Int)).wf = true := WalkArith.wf_i64 (by omega)
          have hT1 : Tel (wr.alloc (.cells #[.int .i64 r0, .int .i64 r1, .int .i64 r2, .int .i64 r3] 70)) (w.heap.size + 1) 0 (partF [[a0, a1, a2, a3], [b0, b1, b2, b3], [c0, c1, c2, c3], [d0, d1, d2, d3]] 0) n n := World.ownsMap.alloc hT _
          clear h1 hrow hy
          go_wp2_with (at_mapUpdate; refine wpList_mapUpdate_own _ rfl _ _ _ 105 rfl 2 2 keyI Try.underlying105 _ (w.heap.size + 1) n _ rfl hT1 (by unfold maxLen; omega) _ _ _ rfl rfl (Go.Maps.keyOf_int_mk Try.underlying2 hk) _ [] (plainElem_int Try.underlying2 hw) ?_; intro w3 hT3 hg3)
          have hB3 : Below w.heap.size w w3 := (hB.alloc hB.size _).grown hg3 (hB.alloc hB.size _).size (fun j hj => by cases hj; omega)
          go_roundw
          case rel => exact ⟨n + 1, by omega, by go_num, by unfold Tel; rw [← HK.out]; exact hT3, hB3⟩
          case measure => simp [intOf]; omega
      · obtain rfl : n = 4 := by omega
        go_wp2
        go_ret
        exact ⟨_, rfl, hT, by omega, hB⟩
  · show Calls _ _ #[_, .int .i64 1] _ _
    go_enter Try.func82, Try.ntmps82
    go_wp2_with fail
    rw [← eW0]
    clear eW0
    go_loopw [10] (fun c wr => ∃ n : Nat, n ≤ 4 ∧ c = .int .i64 n ∧ Tel wr (w.heap.size + 1) 1 (partF [[a0, a1, a2, a3], [b0, b1, b2, b3], [c0, c1, c2, c3], [d0, d1, d2, d3]] 1) n n ∧ Below w.heap.size w wr) (fun c _ => 4 - (intOf c).toNat)
    case atStart => exact ⟨0, Nat.zero_le _, rfl, T0, B0⟩
    case round =>
      clear T0 B0
      obtain ⟨n, hn, rfl, hT, hB⟩ := hrel
      have tl := hT.lt
      by_cases hlt : n < 4
      · obtain ⟨r0, r1, r2, r3, hrow, hix⟩ := HRW.out n hlt
        have hi : (n : Int) < 4 := by omega
        by_cases h1 : n = 1
        · have e1 : ((n : Int) != 1) = false := by subst h1; rfl
          have HK : Hid (telU 1 (partF [[a0, a1, a2, a3], [b0, b1, b2, b3], [c0, c1, c2, c3], [d0, d1, d2, d3]] 1) n = telU 1 (partF [[a0, a1, a2, a3], [b0, b1, b2, b3], [c0, c1, c2, c3], [d0, d1, d2, d3]] 1) (n + 1)) := HSK.out n h1
          clear h1 hrow
          go_wp2_with fail
          go_roundw
          case rel => exact ⟨n + 1, by omega, by go_num, by unfold Tel; rw [← HK.out]; exact World.ownsMap.mono (World.ownsMap.alloc hT _) (by omega), (by have zz0 := (hB).size; (try simp at zz0); repeat (first | exact Below.refl _ _ | refine Below.drew ?_ | refine below_drewN ?_ _ | refine Below.setCell ?_ (by first | omega | (simp; done) | (simp; omega)) _ | refine Below.alloc ?_ (by first | omega | (simp; done) | (simp; omega)) _ | refine bcall ?_ hB (by first | omega | (simp; done) | (simp; omega))))⟩
          case measure => simp [intOf]; omega
        · have e1 : ((n : Int) != 1) = true := by simpa using (show ¬ (n : Int) = 1 by omega)
          have hy : partF [[a0, a1, a2, a3], [b0, b1, b2, b3], [c0, c1, c2, c3], [d0, d1, d2, d3]] 1 n = r1 := by show List.getD (List.getD _ _ _) _ _ = _; rw [hrow]; rfl
          have HK : Hid ((telU 1 (partF [[a0, a1, a2, a3], [b0, b1, b2, b3], [c0, c1, c2, c3], [d0, d1, d2, d3]] 1) n).put (.int .i64 (n : Int)) (.lit (.int .i64 r1)) = telU 1 (partF [[a0, a1, a2, a3], [b0, b1, b2, b3], [c0, c1, c2, c3], [d0, d1, d2, d3]] 1) (n + 1)) := by have := HSN.out n hlt h1; rw [hy] at this; exact this
          have hw : (Lit.int .i64 r1).wf = true := by rw [← hy]; exact HW.out n hlt
          have hk : (Lit.int .i64 (n : Int)).wf = true := WalkArith.wf_i64 (by omega)
          have hT1 : Tel (wr.alloc (.cells #[.int .i64 r0, .int .i64 r1, .int .i64 r2, .int .i64 r3] 70)) (w.heap.size + 1) 1 (partF [[a0, a1, a2, a3], [b0, b1, b2, b3], [c0, c1, c2, c3], [d0, d1, d2, d3]] 1) n n := World.ownsMap.alloc hT _
          clear h1 hrow hy
          go_wp2_with (at_mapUpdate; refine wpList_mapUpdate_own _ rfl _ _ _ 105 rfl 2 2 keyI Try.underlying105 _ (w.heap.size + 1) n _ rfl hT1 (by unfold maxLen; omega) _ _ _ rfl rfl (Go.Maps.keyOf_int_mk Try.underlying2 hk) _ [] (plainElem_int Try.underlying2 hw) ?_; intro w3 hT3 hg3)
          have hB3 : Below w.heap.size w w3 := (hB.alloc hB.size _).grown hg3 (hB.alloc hB.size _).size (fun j hj => by cases hj; omega)
          go_roundw
          case rel => exact ⟨n + 1, by omega, by go_num, by unfold Tel; rw [← HK.out]; exact hT3, hB3⟩
          case measure => simp [intOf]; omega
      · obtain rfl : n = 4 := by omega
        go_wp2
        go_ret
        exact ⟨_, rfl, hT, by omega, hB⟩
  · show Calls _ _ #[_, .int .i64 2] _ _
    go_enter Try.func82, Try.ntmps82
    go_wp2_with fail
    rw [← eW0]
    clear eW0
    go_loopw [10] (fun c wr => ∃ n : Nat, n ≤ 4 ∧ c = .int .i64 n ∧ Tel wr (w.heap.size + 1) 2 (partF [[a0, a1, a2, a3], [b0, b1, b2, b3], [c0, c1, c2, c3], [d0, d1, d2, d3]] 2) n n ∧ Below w.heap.size w wr) (fun c _ => 4 - (intOf c).toNat)
    case atStart => exact ⟨0, Nat.zero_le _, rfl, T0, B0⟩
    case round =>
      clear T0 B0
      obtain ⟨n, hn, rfl, hT, hB⟩ := hrel
      have tl := hT.lt
      by_cases hlt : n < 4
      · obtain ⟨r0, r1, r2, r3, hrow, hix⟩ := HRW.out n hlt
        have hi : (n : Int) < 4 := by omega
        by_cases h1 : n = 2
        · have e1 : ((n : Int) != 2) = false := by subst h1; rfl
          have HK : Hid (telU 2 (partF [[a0, a1, a2, a3], [b0, b1, b2, b3], [c0, c1, c2, c3], [d0, d1, d2, d3]] 2) n = telU 2 (partF [[a0, a1, a2, a3], [b0, b1, b2, b3], [c0, c1, c2, c3], [d0, d1, d2, d3]] 2) (n + 1)) := HSK.out n h1
          clear h1 hrow
          go_wp2_with fail
          go_roundw
          case rel => exact ⟨n + 1, by omega, by go_num, by unfold Tel; rw [← HK.out]; exact World.ownsMap.mono (World.ownsMap.alloc hT _) (by omega), (by have zz0 := (hB).size; (try simp at zz0); repeat (first | exact Below.refl _ _ | refine Below.drew ?_ | refine below_drewN ?_ _ | refine Below.setCell ?_ (by first | omega | (simp; done) | (simp; omega)) _ | refine Below.alloc ?_ (by first | omega | (simp; done) | (simp; omega)) _ | refine bcall ?_ hB (by first | omega | (simp; done) | (simp; omega))))⟩
          case measure => simp [intOf]; omega
        · have e1 : ((n : Int) != 2) = true := by simpa using (show ¬ (n : Int) = 2 by omega)
          have hy : partF [[a0, a1, a2, a3], [b0, b1, b2, b3], [c0, c1, c2, c3], [d0, d1, d2, d3]] 2 n = r2 := by show List.getD (List.getD _ _ _) _ _ = _; rw [hrow]; rfl
          have HK : Hid ((telU 2 (partF [[a0, a1, a2, a3], [b0, b1, b2, b3], [c0, c1, c2, c3], [d0, d1, d2, d3]] 2) n).put (.int .i64 (n : Int)) (.lit (.int .i64 r2)) = telU 2 (partF [[a0, a1, a2, a3], [b0, b1, b2, b3], [c0, c1, c2, c3], [d0, d1, d2, d3]] 2) (n + 1)) := by have := HSN.out n hlt h1; rw [hy] at this; exact this
          have hw : (Lit.int .i64 r2).wf = true := by rw [← hy]; exact HW.out n hlt
          have hk : (Lit.int .i64 (n : Int)).wf = true := WalkArith.wf_i64 (by omega)
          have hT1 : Tel (wr.alloc (.cells #[.int .i64 r0, .int .i64 r1, .int .i64 r2, .int .i64 r3] 70)) (w.heap.size + 1) 2 (partF [[a0, a1, a2, a3], [b0, b1, b2, b3], [c0, c1, c2, c3], [d0, d1, d2, d3]] 2) n n := World.ownsMap.alloc hT _
          clear h1 hrow hy
          go_wp2_with (at_mapUpdate; refine wpList_mapUpdate_own _ rfl _ _ _ 105 rfl 2 2 keyI Try.underlying105 _ (w.heap.size + 1) n _ rfl hT1 (by unfold maxLen; omega) _ _ _ rfl rfl (Go.Maps.keyOf_int_mk Try.underlying2 hk) _ [] (plainElem_int Try.underlying2 hw) ?_; intro w3 hT3 hg3)
          have hB3 : Below w.heap.size w w3 := (hB.alloc hB.size _).grown hg3 (hB.alloc hB.size _).size (fun j hj => by cases hj; omega)
          go_roundw
          case rel => exact ⟨n + 1, by omega, by go_num, by unfold Tel; rw [← HK.out]; exact hT3, hB3⟩
          case measure => simp [intOf]; omega
      · obtain rfl : n = 4 := by omega
        go_wp2
        go_ret
        exact ⟨_, rfl, hT, by omega, hB⟩
  · show Calls _ _ #[_, .int .i64 3] _ _
    go_enter Try.func82, Try.ntmps82
    go_wp2_with fail
    rw [← eW0]
    clear eW0
    go_loopw [10] (fun c wr => ∃ n : Nat, n ≤ 4 ∧ c = .int .i64 n ∧ Tel wr (w.heap.size + 1) 3 (partF [[a0, a1, a2, a3], [b0, b1, b2, b3], [c0, c1, c2, c3], [d0, d1, d2, d3]] 3) n n ∧ Below w.heap.size w wr) (fun c _ => 4 - (intOf c).toNat)
    case atStart => exact ⟨0, Nat.zero_le _, rfl, T0, B0⟩
    case round =>
      clear T0 B0
      obtain ⟨n, hn, rfl, hT, hB⟩ := hrel
      have tl := hT.lt
      by_cases hlt : n < 4
      · obtain ⟨r0, r1, r2, r3, hrow, hix⟩ := HRW.out n hlt
        have hi : (n : Int) < 4 := by omega
        by_cases h1 : n = 3
        · have e1 : ((n : Int) != 3) = false := by subst h1; rfl
          have HK : Hid (telU 3 (partF [[a0, a1, a2, a3], [b0, b1, b2, b3], [c0, c1, c2, c3], [d0, d1, d2, d3]] 3) n = telU 3 (partF [[a0, a1, a2, a3], [b0, b1, b2, b3], [c0, c1, c2, c3], [d0, d1, d2, d3]] 3) (n + 1)) := HSK.out n h1
          clear h1 hrow
          go_wp2_with fail
          go_roundw
          case rel => exact ⟨n + 1, by omega, by go_num, by unfold Tel; rw [← HK.out]; exact World.ownsMap.mono (World.ownsMap.alloc hT _) (by omega), (by have zz0 := (hB).size; (try simp at zz0); repeat (first | exact Below.refl _ _ | refine Below.drew ?_ | refine below_drewN ?_ _ | refine Below.setCell ?_ (by first | omega | (simp; done) | (simp; omega)) _ | refine Below.alloc ?_ (by first | omega | (simp; done) | (simp; omega)) _ | refine bcall ?_ hB (by first | omega | (simp; done) | (simp; omega))))⟩
          case measure => simp [intOf]; omega
        · have e1 : ((n : Int) != 3) = true := by simpa using (show ¬ (n : Int) = 3 by omega)
          have hy : partF [[a0, a1, a2, a3], [b0, b1, b2, b3], [c0, c1, c2, c3], [d0, d1, d2, d3]] 3 n = r3 := by show List.getD (List.getD _ _ _) _ _ = _; rw [hrow]; rfl
          have HK : Hid ((telU 3 (partF [[a0, a1, a2, a3], [b0, b1, b2, b3], [c0, c1, c2, c3], [d0, d1, d2, d3]] 3) n).put (.int .i64 (n : Int)) (.lit (.int .i64 r3)) = telU 3 (partF [[a0, a1, a2, a3], [b0, b1, b2, b3], [c0, c1, c2, c3], [d0, d1, d2, d3]] 3) (n + 1)) := by have := HSN.out n hlt h1; rw [hy] at this; exact this
          have hw : (Lit.int .i64 r3).wf = true := by rw [← hy]; exact HW.out n hlt
          have hk : (Lit.int .i64 (n : Int)).wf = true := WalkArith.wf_i64 (by omega)
          have hT1 : Tel (wr.alloc (.cells #[.int .i64 r0, .int .i64 r1, .int .i64 r2, .int .i64 r3] 70)) (w.heap.size + 1) 3 (partF [[a0, a1, a2, a3], [b0, b1, b2, b3], [c0, c1, c2, c3], [d0, d1, d2, d3]] 3) n n := World.ownsMap.alloc hT _
          clear h1 hrow hy
          go_wp2_with (at_mapUpdate; refine wpList_mapUpdate_own _ rfl _ _ _ 105 rfl 2 2 keyI Try.underlying105 _ (w.heap.size + 1) n _ rfl hT1 (by unfold maxLen; omega) _ _ _ rfl rfl (Go.Maps.keyOf_int_mk Try.underlying2 hk) _ [] (plainElem_int Try.underlying2 hw) ?_; intro w3 hT3 hg3)
          have hB3 : Below w.heap.size w w3 := (hB.alloc hB.size _).grown hg3 (hB.alloc hB.size _).size (fun j hj => by cases hj; omega)
          go_roundw
          case rel => exact ⟨n + 1, by omega, by go_num, by unfold Tel; rw [← HK.out]; exact hT3, hB3⟩
          case measure => simp [intOf]; omega
      · obtain rfl : n = 4 := by omega
        go_wp2
        go_ret
        exact ⟨_, rfl, hT, by omega, hB⟩
end Go.Proofs.Ytcnbkdpmcohlgam
