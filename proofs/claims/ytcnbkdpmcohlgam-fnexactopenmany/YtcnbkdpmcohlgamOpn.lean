/-
  Contracts of chapter 6 of the program: what is opened, by one party.
-/
import Derived.Test.YtcnbkdpmcohlgamPrt2
import Derived.Test.YtcnbkdpmcohlgamMirL
import Derived.Deep.RegionWith
namespace Go.Proofs.Ytcnbkdpmcohlgam
open Go.ChangeShapes Go.WideShapes Go.ChangeAt Go.RowKit
set_option linter.unusedVariables false
/-- a number and the first k of a list -/
def opS (s : Int) (xs : List Int) : Nat → Int
  | 0 => s
  | k + 1 => opS s xs k + xs.getD k 0
/-- what a party opens -/
def openV (q : Int) (xss : List (List Int)) (party : Nat) (who by' : Int) : Int := opS (partM q xss party who by').2 (xss.getD party []) 4 % q
theorem addmod' (a b q : Int) : (a % q + b) % q = (a + b) % q := Int.emod_add_emod ..
theorem major_mem {xs : List Int} {q : Int} (h3 : xs.length = 3) (hx : ∀ y ∈ xs, 0 ≤ y ∧ y < q) (h : (major xs).1 = 0) : 0 ≤ (major xs).2 ∧ (major xs).2 < q := by
  obtain ⟨a, b, c, rfl⟩ := three_of xs h3
  revert h
  simp only [major]
  split
  · intro _; exact hx a (by simp)
  · split
    · intro _; exact hx b (by simp)
    · intro h; simp at h
theorem told4_mem {part n : Nat} {f : Nat → Int} {y : Int} (h : y ∈ told4 part f n) : ∃ k, k < n ∧ y = f k := by
  induction n with
  | zero => simp [told4] at h
  | succ n ih =>
    rw [told4, List.mem_append] at h
    rcases h with h | h
    · obtain ⟨k, hk, e⟩ := ih h; exact ⟨k, by omega, e⟩
    · by_cases hn : n ≠ part
      · rw [if_pos hn] at h; simp at h; exact ⟨n, by omega, h⟩
      · rw [if_neg hn] at h; simp at h
theorem partM_bd {q : Int} {xss : List (List Int)} {part : Nat} {who by' : Int} (hp : part < 4) (hq : q = 2 ∨ q = 256) (hf : ∀ k, k < 4 → 0 ≤ partF xss part k ∧ partF xss part k < q) (h : (partM q xss part who by').1 = 0) : 0 ≤ (partM q xss part who by').2 ∧ (partM q xss part who by').2 < q := by
  refine major_mem (told4_three' part _ hp) (fun y hy => ?_) h
  obtain ⟨k, hk, rfl⟩ := told4_mem hy
  unfold lieF
  split
  · exact ⟨Int.emod_nonneg _ (by omega), Int.emod_lt_of_pos _ (by omega)⟩
  · exact hf k hk
set_option maxHeartbeats 8000000 in
set_option maxRecDepth 100000 in
theorem impl_opened (xss : List (List Int)) (q : Int) (party : Nat) (who by' : Int) (w : World) (hs : Sq xss) (hp : party < 4) (hq : q = 2 ∨ q = 256) (hx : ∀ i j, 0 ≤ (xss.getD i []).getD j 0 ∧ (xss.getD i []).getD j 0 < q) (hwho : -1 ≤ who ∧ who ≤ 3) (hby : 0 ≤ by' ∧ by' ≤ 255) :
    Calls Try.prog 44 #[ag2 xss, .int .i64 q, .int .i64 party, .int .i64 who, .int .i64 by'] w fun e w' => Agr ((partM q xss party who by').1, openV q xss party who by') e ∧ Below w.heap.size w w' := by
  have hf : ∀ k, k < 4 → 0 ≤ partF xss party k ∧ partF xss party k < q := fun k _ => hx k party
  have KP := fun V => impl_partFrom xss q party who by' V hs hp hq hf hwho hby
  have HM : Hid ((partM q xss party who by').1 = 0 → _) := partM_bd (xss := xss) (who := who) (by' := by') hp hq hf
  have HV : Hid (openV q xss party who by' = opS (partM q xss party who by').2 (xss.getD party []) 4 % q) := rfl
  have HX : Hid (∀ j, 0 ≤ (xss.getD party []).getD j 0 ∧ (xss.getD party []).getD j 0 < q) := fun j => hx party j
  generalize openV q xss party who by' = ov at *
  generalize partM q xss party who by' = M at *
  have hq1 : 2 ≤ q := by rcases hq with h | h <;> omega
  have hq2 : q ≤ 256 := by rcases hq with h | h <;> omega
  clear hf hwho hby hx
  have nf := fieldIR_1
  obtain ⟨a0, a1, a2, a3, b0, b1, b2, b3, c0, c1, c2, c3, d0, d1, d2, d3, rfl⟩ := hs.lit
  rw [show ag2 [[a0, a1, a2, a3], [b0, b1, b2, b3], [c0, c1, c2, c3], [d0, d1, d2, d3]] = .agg #[.int .i64 a0, .int .i64 a1, .int .i64 a2, .int .i64 a3, .int .i64 b0, .int .i64 b1, .int .i64 b2, .int .i64 b3, .int .i64 c0, .int .i64 c1, .int .i64 c2, .int .i64 c3, .int .i64 d0, .int .i64 d1, .int .i64 d2, .int .i64 d3] from rfl] at KP ⊢
  have X0 := Blk.new w 72 #[.int .i64 a0, .int .i64 a1, .int .i64 a2, .int .i64 a3, .int .i64 b0, .int .i64 b1, .int .i64 b2, .int .i64 b3, .int .i64 c0, .int .i64 c1, .int .i64 c2, .int .i64 c3, .int .i64 d0, .int .i64 d1, .int .i64 d2, .int .i64 d3]
  have B0 : Below w.heap.size w (w.alloc (.cells #[.int .i64 a0, .int .i64 a1, .int .i64 a2, .int .i64 a3, .int .i64 b0, .int .i64 b1, .int .i64 b2, .int .i64 b3, .int .i64 c0, .int .i64 c1, .int .i64 c2, .int .i64 c3, .int .i64 d0, .int .i64 d1, .int .i64 d2, .int .i64 d3] 72)) := (by repeat (first | exact Below.refl _ _ | refine Below.drew ?_ | refine below_drewN ?_ _ | refine Below.setCell ?_ (by first | omega | (simp; done) | (simp; omega)) _ | refine Below.alloc ?_ (by first | omega | (simp; done) | (simp; omega)) _))
  clear hs
  obtain rfl | rfl | rfl | rfl : party = 0 ∨ party = 1 ∨ party = 2 ∨ party = 3 := by omega
  · replace HV : Hid (ov = opS M.2 [a0, a1, a2, a3] 4 % q) := HV
    replace HX : Hid (∀ j, 0 ≤ [a0, a1, a2, a3].getD j 0 ∧ [a0, a1, a2, a3].getD j 0 < q) := HX
    replace KP : ∀ V, Calls Try.prog 54 #[.agg #[.int .i64 a0, .int .i64 a1, .int .i64 a2, .int .i64 a3, .int .i64 b0, .int .i64 b1, .int .i64 b2, .int .i64 b3, .int .i64 c0, .int .i64 c1, .int .i64 c2, .int .i64 c3, .int .i64 d0, .int .i64 d1, .int .i64 d2, .int .i64 d3], .int .i64 q, .int .i64 0, .int .i64 who, .int .i64 by'] V fun e w' => Agr M e ∧ Below V.heap.size V w' := KP
    show Calls _ _ #[_, _, .int .i64 0, _, _] _ _
    go_enter Try.func44, Try.ntmps44
    go_wp2_with fail
    refine (KP _).mono ?_
    rintro e w1 ⟨hA, hb1⟩
    replace X0 := X0.keep hb1
    replace B0 : Below w.heap.size w w1 := B0.trans (hb1.mono B0.size)
    clear hb1 KP
    rcases hA with ⟨h0, rfl⟩ | ⟨h0, pv, rfl⟩
    · have hm := HM.out h0
      have HM0 : Hid (M.1 = 0) := h0
      clear h0 HM
      generalize M.2 = s0 at *
      go_wp2_with fail
      refine (impl_elementOf q s0 _ (by omega) (by omega) (by omega) (by omega)).mono ?_
      rintro e w6 ⟨rfl, hb6⟩
      replace X0 := (X0.keep hb6).alloc (.cells #[.int .u16 q, .int .u16 s0] 101)
      replace B0 : Below w.heap.size w w6 := B0.trans (hb6.mono B0.size)
      have E0 := Blk.new w6 101 #[.int .u16 q, .int .u16 s0]
      have hwl : w.heap.size ≤ w6.heap.size := B0.size
      replace B0 := B0.alloc B0.size (.cells #[.int .u16 q, .int .u16 s0] 101)
      have hs0 : s0 % q = s0 := Int.emod_eq_of_lt hm.1 hm.2
      clear hb6
      have xa := X0.at.1
      have xl := X0.lt
      go_wp2_with fail
      clear xa
      go_loopw [25] (fun i wr => ∃ k : Nat, k ≤ 4 ∧ i = .int .i64 k ∧ Blk wr w6.heap.size 101 #[.int .u16 q, .int .u16 (opS s0 [a0, a1, a2, a3] k % q)] ∧ Below w.heap.size w wr) (fun i _ => 4 - (intOf i).toNat)
      case atStart => exact ⟨0, Nat.zero_le _, rfl, by simpa [opS, hs0] using E0, B0⟩
      case round =>
        clear X0 E0 B0
        obtain ⟨k, hk, rfl, E, B⟩ := hrel
        by_cases hlt : k < 4
        · have ho := fun w => run_one a0 a1 a2 a3 k hlt w
          have hpb := HX.out k
          have HN : Hid ((opS s0 [a0, a1, a2, a3] k % q + [a0, a1, a2, a3].getD k 0) % q = opS s0 [a0, a1, a2, a3] (k + 1) % q) := by show _ = _; rw [addmod']; rfl
          have s1 : 0 ≤ opS s0 [a0, a1, a2, a3] k % q := Int.emod_nonneg _ (by omega)
          have s2 : opS s0 [a0, a1, a2, a3] k % q < q := Int.emod_lt_of_pos _ (by omega)
          have hi : (k : Int) < 4 := by omega
          generalize [a0, a1, a2, a3].getD k 0 = y at *
          generalize opS s0 [a0, a1, a2, a3] k % q = s at *
          obtain ⟨y1, y2⟩ := hpb
          have y3 : y ≤ 256 := by omega
          have q1 : 1 ≤ q := by omega
          have q0 : 0 ≤ q := by omega
          have ea := E.at.1
          have eb := E.at.2
          go_wp2_with fail
          have tok : True := trivial
          have Ed := E.drew
          have Bd := B.drew
          clear E B hlt
          go_region_with (first | (go_at_call 78; have _t := tok; refine (impl_elementOf q y _ q0 hq2 y1 y3).mono ?_; rintro e w7 ⟨rfl, hb7⟩; have E7 := Ed.keep hb7; have B7 := Bd.trans (hb7.mono Bd.size); have e7 := E7.at.1; clear tok) | (go_at_call 79; refine (impl_plus q s y _ q1 hq2 s1 s2 y1 y2).mono ?_; rintro e w8 ⟨rfl, hb8⟩; have E8 := E7.keep hb8; have B8 := B7.trans (hb8.mono B7.size); have e8 := E8.at.1; have f8 := E8.at.2))
          all_goals
            have E9 := (E8.set 0 (.int .u16 q)).set 1 (.int .u16 ((s + y) % q))
            rw [HN.out] at E9
            clear e8 f8 e7 E7 E8 B7 Ed Bd ea eb hb7 hb8
            go_wp2
            go_roundw
            case rel => exact ⟨k + 1, by omega, by go_num, by rw [HN.out]; simpa using E9, (B8.setCell (by simp; omega) _).setCell (by simp; omega) _⟩
            case measure => simp [intOf]; omega
        · obtain rfl : k = 4 := by omega
          have s1 : 0 ≤ opS s0 [a0, a1, a2, a3] 4 % q := Int.emod_nonneg _ (by omega)
          have s2 : opS s0 [a0, a1, a2, a3] 4 % q < q := Int.emod_lt_of_pos _ (by omega)
          rw [← HV.out] at s1 s2 E
          have ea := E.at.1
          go_wp2_with fail
          refine (impl_result q ov _ s1 (by omega)).mono ?_
          rintro e w7 ⟨rfl, hb7⟩
          have B7 := B.trans (hb7.mono B.size)
          clear ea
          go_wp2
          go_ret
          exact ⟨.inl ⟨HM0.out, rfl⟩, B7⟩
    · exact ⟨rfl, .inr ⟨h0, pv, rfl⟩, B0⟩
  · replace HV : Hid (ov = opS M.2 [b0, b1, b2, b3] 4 % q) := HV
    replace HX : Hid (∀ j, 0 ≤ [b0, b1, b2, b3].getD j 0 ∧ [b0, b1, b2, b3].getD j 0 < q) := HX
    replace KP : ∀ V, Calls Try.prog 54 #[.agg #[.int .i64 a0, .int .i64 a1, .int .i64 a2, .int .i64 a3, .int .i64 b0, .int .i64 b1, .int .i64 b2, .int .i64 b3, .int .i64 c0, .int .i64 c1, .int .i64 c2, .int .i64 c3, .int .i64 d0, .int .i64 d1, .int .i64 d2, .int .i64 d3], .int .i64 q, .int .i64 1, .int .i64 who, .int .i64 by'] V fun e w' => Agr M e ∧ Below V.heap.size V w' := KP
    show Calls _ _ #[_, _, .int .i64 1, _, _] _ _
    go_enter Try.func44, Try.ntmps44
    go_wp2_with fail
    refine (KP _).mono ?_
    rintro e w1 ⟨hA, hb1⟩
    replace X0 := X0.keep hb1
    replace B0 : Below w.heap.size w w1 := B0.trans (hb1.mono B0.size)
    clear hb1 KP
    rcases hA with ⟨h0, rfl⟩ | ⟨h0, pv, rfl⟩
    · have hm := HM.out h0
      have HM0 : Hid (M.1 = 0) := h0
      clear h0 HM
      generalize M.2 = s0 at *
      go_wp2_with fail
      refine (impl_elementOf q s0 _ (by omega) (by omega) (by omega) (by omega)).mono ?_
      rintro e w6 ⟨rfl, hb6⟩
      replace X0 := (X0.keep hb6).alloc (.cells #[.int .u16 q, .int .u16 s0] 101)
      replace B0 : Below w.heap.size w w6 := B0.trans (hb6.mono B0.size)
      have E0 := Blk.new w6 101 #[.int .u16 q, .int .u16 s0]
      have hwl : w.heap.size ≤ w6.heap.size := B0.size
      replace B0 := B0.alloc B0.size (.cells #[.int .u16 q, .int .u16 s0] 101)
      have hs0 : s0 % q = s0 := Int.emod_eq_of_lt hm.1 hm.2
      clear hb6
      have xa := X0.at.1
      have xl := X0.lt
      go_wp2_with fail
      clear xa
      go_loopw [25] (fun i wr => ∃ k : Nat, k ≤ 4 ∧ i = .int .i64 k ∧ Blk wr w6.heap.size 101 #[.int .u16 q, .int .u16 (opS s0 [b0, b1, b2, b3] k % q)] ∧ Below w.heap.size w wr) (fun i _ => 4 - (intOf i).toNat)
      case atStart => exact ⟨0, Nat.zero_le _, rfl, by simpa [opS, hs0] using E0, B0⟩
      case round =>
        clear X0 E0 B0
        obtain ⟨k, hk, rfl, E, B⟩ := hrel
        by_cases hlt : k < 4
        · have ho := fun w => run_one b0 b1 b2 b3 k hlt w
          have hpb := HX.out k
          have HN : Hid ((opS s0 [b0, b1, b2, b3] k % q + [b0, b1, b2, b3].getD k 0) % q = opS s0 [b0, b1, b2, b3] (k + 1) % q) := by show _ = _; rw [addmod']; rfl
          have s1 : 0 ≤ opS s0 [b0, b1, b2, b3] k % q := Int.emod_nonneg _ (by omega)
          have s2 : opS s0 [b0, b1, b2, b3] k % q < q := Int.emod_lt_of_pos _ (by omega)
          have hi : (k : Int) < 4 := by omega
          generalize [b0, b1, b2, b3].getD k 0 = y at *
          generalize opS s0 [b0, b1, b2, b3] k % q = s at *
          obtain ⟨y1, y2⟩ := hpb
          have y3 : y ≤ 256 := by omega
          have q1 : 1 ≤ q := by omega
          have q0 : 0 ≤ q := by omega
          have ea := E.at.1
          have eb := E.at.2
          go_wp2_with fail
          have tok : True := trivial
          have Ed := E.drew
          have Bd := B.drew
          clear E B hlt
          go_region_with (first | (go_at_call 78; have _t := tok; refine (impl_elementOf q y _ q0 hq2 y1 y3).mono ?_; rintro e w7 ⟨rfl, hb7⟩; have E7 := Ed.keep hb7; have B7 := Bd.trans (hb7.mono Bd.size); have e7 := E7.at.1; clear tok) | (go_at_call 79; refine (impl_plus q s y _ q1 hq2 s1 s2 y1 y2).mono ?_; rintro e w8 ⟨rfl, hb8⟩; have E8 := E7.keep hb8; have B8 := B7.trans (hb8.mono B7.size); have e8 := E8.at.1; have f8 := E8.at.2))
          all_goals
            have E9 := (E8.set 0 (.int .u16 q)).set 1 (.int .u16 ((s + y) % q))
            rw [HN.out] at E9
            clear e8 f8 e7 E7 E8 B7 Ed Bd ea eb hb7 hb8
            go_wp2
            go_roundw
            case rel => exact ⟨k + 1, by omega, by go_num, by rw [HN.out]; simpa using E9, (B8.setCell (by simp; omega) _).setCell (by simp; omega) _⟩
            case measure => simp [intOf]; omega
        · obtain rfl : k = 4 := by omega
          have s1 : 0 ≤ opS s0 [b0, b1, b2, b3] 4 % q := Int.emod_nonneg _ (by omega)
          have s2 : opS s0 [b0, b1, b2, b3] 4 % q < q := Int.emod_lt_of_pos _ (by omega)
          rw [← HV.out] at s1 s2 E
          have ea := E.at.1
          go_wp2_with fail
          refine (impl_result q ov _ s1 (by omega)).mono ?_
          rintro e w7 ⟨rfl, hb7⟩
          have B7 := B.trans (hb7.mono B.size)
          clear ea
          go_wp2
          go_ret
          exact ⟨.inl ⟨HM0.out, rfl⟩, B7⟩
    · exact ⟨rfl, .inr ⟨h0, pv, rfl⟩, B0⟩
  · replace HV : Hid (ov = opS M.2 [c0, c1, c2, c3] 4 % q) := HV
    replace HX : Hid (∀ j, 0 ≤ [c0, c1, c2, c3].getD j 0 ∧ [c0, c1, c2, c3].getD j 0 < q) := HX
    replace KP : ∀ V, Calls Try.prog 54 #[.agg #[.int .i64 a0, .int .i64 a1, .int .i64 a2, .int .i64 a3, .int .i64 b0, .int .i64 b1, .int .i64 b2, .int .i64 b3, .int .i64 c0, .int .i64 c1, .int .i64 c2, .int .i64 c3, .int .i64 d0, .int .i64 d1, .int .i64 d2, .int .i64 d3], .int .i64 q, .int .i64 2, .int .i64 who, .int .i64 by'] V fun e w' => Agr M e ∧ Below V.heap.size V w' := KP
    show Calls _ _ #[_, _, .int .i64 2, _, _] _ _
    go_enter Try.func44, Try.ntmps44
    go_wp2_with fail
    refine (KP _).mono ?_
    rintro e w1 ⟨hA, hb1⟩
    replace X0 := X0.keep hb1
    replace B0 : Below w.heap.size w w1 := B0.trans (hb1.mono B0.size)
    clear hb1 KP
    rcases hA with ⟨h0, rfl⟩ | ⟨h0, pv, rfl⟩
    · have hm := HM.out h0
      have HM0 : Hid (M.1 = 0) := h0
      clear h0 HM
      generalize M.2 = s0 at *
      go_wp2_with fail
      refine (impl_elementOf q s0 _ (by omega) (by omega) (by omega) (by omega)).mono ?_
      rintro e w6 ⟨rfl, hb6⟩
      replace X0 := (X0.keep hb6).alloc (.cells #[.int .u16 q, .int .u16 s0] 101)
      replace B0 : Below w.heap.size w w6 := B0.trans (hb6.mono B0.size)
      have E0 := Blk.new w6 101 #[.int .u16 q, .int .u16 s0]
      have hwl : w.heap.size ≤ w6.heap.size := B0.size
      replace B0 := B0.alloc B0.size (.cells #[.int .u16 q, .int .u16 s0] 101)
      have hs0 : s0 % q = s0 := Int.emod_eq_of_lt hm.1 hm.2
      clear hb6
      have xa := X0.at.1
      have xl := X0.lt
      go_wp2_with fail
      clear xa
      go_loopw [25] (fun i wr => ∃ k : Nat, k ≤ 4 ∧ i = .int .i64 k ∧ Blk wr w6.heap.size 101 #[.int .u16 q, .int .u16 (opS s0 [c0, c1, c2, c3] k % q)] ∧ Below w.heap.size w wr) (fun i _ => 4 - (intOf i).toNat)
      case atStart => exact ⟨0, Nat.zero_le _, rfl, by simpa [opS, hs0] using E0, B0⟩
      case round =>
        clear X0 E0 B0
        obtain ⟨k, hk, rfl, E, B⟩ := hrel
        by_cases hlt : k < 4
        · have ho := fun w => run_one c0 c1 c2 c3 k hlt w
          have hpb := HX.out k
          have HN : Hid ((opS s0 [c0, c1, c2, c3] k % q + [c0, c1, c2, c3].getD k 0) % q = opS s0 [c0, c1, c2, c3] (k + 1) % q) := by show _ = _; rw [addmod']; rfl
          have s1 : 0 ≤ opS s0 [c0, c1, c2, c3] k % q := Int.emod_nonneg _ (by omega)
          have s2 : opS s0 [c0, c1, c2, c3] k % q < q := Int.emod_lt_of_pos _ (by omega)
          have hi : (k : Int) < 4 := by omega
          generalize [c0, c1, c2, c3].getD k 0 = y at *
          generalize opS s0 [c0, c1, c2, c3] k % q = s at *
          obtain ⟨y1, y2⟩ := hpb
          have y3 : y ≤ 256 := by omega
          have q1 : 1 ≤ q := by omega
          have q0 : 0 ≤ q := by omega
          have ea := E.at.1
          have eb := E.at.2
          go_wp2_with fail
          have tok : True := trivial
          have Ed := E.drew
          have Bd := B.drew
          clear E B hlt
          go_region_with (first | (go_at_call 78; have _t := tok; refine (impl_elementOf q y _ q0 hq2 y1 y3).mono ?_; rintro e w7 ⟨rfl, hb7⟩; have E7 := Ed.keep hb7; have B7 := Bd.trans (hb7.mono Bd.size); have e7 := E7.at.1; clear tok) | (go_at_call 79; refine (impl_plus q s y _ q1 hq2 s1 s2 y1 y2).mono ?_; rintro e w8 ⟨rfl, hb8⟩; have E8 := E7.keep hb8; have B8 := B7.trans (hb8.mono B7.size); have e8 := E8.at.1; have f8 := E8.at.2))
          all_goals
            have E9 := (E8.set 0 (.int .u16 q)).set 1 (.int .u16 ((s + y) % q))
            rw [HN.out] at E9
            clear e8 f8 e7 E7 E8 B7 Ed Bd ea eb hb7 hb8
            go_wp2
            go_roundw
            case rel => exact ⟨k + 1, by omega, by go_num, by rw [HN.out]; simpa using E9, (B8.setCell (by simp; omega) _).setCell (by simp; omega) _⟩
            case measure => simp [intOf]; omega
        · obtain rfl : k = 4 := by omega
          have s1 : 0 ≤ opS s0 [c0, c1, c2, c3] 4 % q := Int.emod_nonneg _ (by omega)
          have s2 : opS s0 [c0, c1, c2, c3] 4 % q < q := Int.emod_lt_of_pos _ (by omega)
          rw [← HV.out] at s1 s2 E
          have ea := E.at.1
          go_wp2_with fail
          refine (impl_result q ov _ s1 (by omega)).mono ?_
          rintro e w7 ⟨rfl, hb7⟩
          have B7 := B.trans (hb7.mono B.size)
          clear ea
          go_wp2
          go_ret
          exact ⟨.inl ⟨HM0.out, rfl⟩, B7⟩
    · exact ⟨rfl, .inr ⟨h0, pv, rfl⟩, B0⟩
  · replace HV : Hid (ov = opS M.2 [d0, d1, d2, d3] 4 % q) := HV
    replace HX : Hid (∀ j, 0 ≤ [d0, d1, d2, d3].getD j 0 ∧ [d0, d1, d2, d3].getD j 0 < q) := HX
    replace KP : ∀ V, Calls Try.prog 54 #[.agg #[.int .i64 a0, .int .i64 a1, .int .i64 a2, .int .i64 a3, .int .i64 b0, .int .i64 b1, .int .i64 b2, .int .i64 b3, .int .i64 c0, .int .i64 c1, .int .i64 c2, .int .i64 c3, .int .i64 d0, .int .i64 d1, .int .i64 d2, .int .i64 d3], .int .i64 q, .int .i64 3, .int .i64 who, .int .i64 by'] V fun e w' => Agr M e ∧ Below V.heap.size V w' := KP
    show Calls _ _ #[_, _, .int .i64 3, _, _] _ _
    go_enter Try.func44, Try.ntmps44
    go_wp2_with fail
    refine (KP _).mono ?_
    rintro e w1 ⟨hA, hb1⟩
    replace X0 := X0.keep hb1
    replace B0 : Below w.heap.size w w1 := B0.trans (hb1.mono B0.size)
    clear hb1 KP
    rcases hA with ⟨h0, rfl⟩ | ⟨h0, pv, rfl⟩
    · have hm := HM.out h0
      have HM0 : Hid (M.1 = 0) := h0
      clear h0 HM
      generalize M.2 = s0 at *
      go_wp2_with fail
      refine (impl_elementOf q s0 _ (by omega) (by omega) (by omega) (by omega)).mono ?_
      rintro e w6 ⟨rfl, hb6⟩
      replace X0 := (X0.keep hb6).alloc (.cells #[.int .u16 q, .int .u16 s0] 101)
      replace B0 : Below w.heap.size w w6 := B0.trans (hb6.mono B0.size)
      have E0 := Blk.new w6 101 #[.int .u16 q, .int .u16 s0]
      have hwl : w.heap.size ≤ w6.heap.size := B0.size
      replace B0 := B0.alloc B0.size (.cells #[.int .u16 q, .int .u16 s0] 101)
      have hs0 : s0 % q = s0 := Int.emod_eq_of_lt hm.1 hm.2
      clear hb6
      have xa := X0.at.1
      have xl := X0.lt
      go_wp2_with fail
      clear xa
      go_loopw [25] (fun i wr => ∃ k : Nat, k ≤ 4 ∧ i = .int .i64 k ∧ Blk wr w6.heap.size 101 #[.int .u16 q, .int .u16 (opS s0 [d0, d1, d2, d3] k % q)] ∧ Below w.heap.size w wr) (fun i _ => 4 - (intOf i).toNat)
      case atStart => exact ⟨0, Nat.zero_le _, rfl, by simpa [opS, hs0] using E0, B0⟩
      case round =>
        clear X0 E0 B0
        obtain ⟨k, hk, rfl, E, B⟩ := hrel
        by_cases hlt : k < 4
        · have ho := fun w => run_one d0 d1 d2 d3 k hlt w
          have hpb := HX.out k
          have HN : Hid ((opS s0 [d0, d1, d2, d3] k % q + [d0, d1, d2, d3].getD k 0) % q = opS s0 [d0, d1, d2, d3] (k + 1) % q) := by show _ = _; rw [addmod']; rfl
          have s1 : 0 ≤ opS s0 [d0, d1, d2, d3] k % q := Int.emod_nonneg _ (by omega)
          have s2 : opS s0 [d0, d1, d2, d3] k % q < q := Int.emod_lt_of_pos _ (by omega)
          have hi : (k : Int) < 4 := by omega
          generalize [d0, d1, d2, d3].getD k 0 = y at *
          generalize opS s0 [d0, d1, d2, d3] k % q = s at *
          obtain ⟨y1, y2⟩ := hpb
          have y3 : y ≤ 256 := by omega
          have q1 : 1 ≤ q := by omega
          have q0 : 0 ≤ q := by omega
          have ea := E.at.1
          have eb := E.at.2
          go_wp2_with fail
          have tok : True := trivial
          have Ed := E.drew
          have Bd := B.drew
          clear E B hlt
          go_region_with (first | (go_at_call 78; have _t := tok; refine (impl_elementOf q y _ q0 hq2 y1 y3).mono ?_; rintro e w7 ⟨rfl, hb7⟩; have E7 := Ed.keep hb7; have B7 := Bd.trans (hb7.mono Bd.size); have e7 := E7.at.1; clear tok) | (go_at_call 79; refine (impl_plus q s y _ q1 hq2 s1 s2 y1 y2).mono ?_; rintro e w8 ⟨rfl, hb8⟩; have E8 := E7.keep hb8; have B8 := B7.trans (hb8.mono B7.size); have e8 := E8.at.1; have f8 := E8.at.2))
          all_goals
            have E9 := (E8.set 0 (.int .u16 q)).set 1 (.int .u16 ((s + y) % q))
            rw [HN.out] at E9
            clear e8 f8 e7 E7 E8 B7 Ed Bd ea eb hb7 hb8
            go_wp2
            go_roundw
            case rel => exact ⟨k + 1, by omega, by go_num, by rw [HN.out]; simpa using E9, (B8.setCell (by simp; omega) _).setCell (by simp; omega) _⟩
            case measure => simp [intOf]; omega
        · obtain rfl : k = 4 := by omega
          have s1 : 0 ≤ opS s0 [d0, d1, d2, d3] 4 % q := Int.emod_nonneg _ (by omega)
          have s2 : opS s0 [d0, d1, d2, d3] 4 % q < q := Int.emod_lt_of_pos _ (by omega)
          rw [← HV.out] at s1 s2 E
          have ea := E.at.1
          go_wp2_with fail
          refine (impl_result q ov _ s1 (by omega)).mono ?_
          rintro e w7 ⟨rfl, hb7⟩
          have B7 := B.trans (hb7.mono B.size)
          clear ea
          go_wp2
          go_ret
          exact ⟨.inl ⟨HM0.out, rfl⟩, B7⟩
    · exact ⟨rfl, .inr ⟨h0, pv, rfl⟩, B0⟩
end Go.Proofs.Ytcnbkdpmcohlgam
