/-
  Chapter 3 of the program: views that are all of one whole; what a mirror is worth. The plain part first.
-/
import Derived.Test.YtepobckhfodngabGreatMirL
import Derived.Laws.StructEq
namespace Go.Proofs.YtepobckhfodngabGreat
open Go.ChangeShapes Go.WideShapes Go.ChangeAt Go.RowKit
set_option linter.unusedVariables false

def lknower (part : Nat) (but : Int) : Nat := if part ≠ 3 ∧ but ≠ 3 then 3 else if part ≠ 2 ∧ but ≠ 2 then 2 else 1
theorem lknower_lt (part : Nat) (but : Int) : lknower part but < 4 := by unfold lknower; split; omega; split <;> omega
theorem lknower_ne (part : Nat) (but : Int) : lknower part but ≠ part ∧ (lknower part but : Int) ≠ but := by
  unfold lknower
  split
  · omega
  · split
    · omega
    · omega
theorem wStep_getD (xss : List (List Int)) (but : Int) (i : Nat) (ps : List Int) (j : Nat) (hj : j < 4) : (wStep xss but i ps).getD j 0 = if (i : Int) = but ∨ j = i then ps.getD j 0 else pt xss i j := by
  unfold wStep
  by_cases h : (i : Int) = but
  · rw [if_pos h, if_pos (.inl h)]
  · rw [if_neg h, wIn_getD _ _ _ _ _ hj]
    by_cases h2 : j = i
    · rw [if_pos (.inl h2), if_pos (.inr h2)]
    · rw [if_neg (by omega), if_neg (by omega)]
theorem wholeL_getD (xss : List (List Int)) (but : Int) (j : Nat) (hj : j < 4) : (wholeL xss but 4).getD j 0 = pt xss (lknower j but) j := by
  rw [wholeL, wStep_getD _ _ _ _ _ hj]
  split
  · rename_i h3
    rw [wholeL, wStep_getD _ _ _ _ _ hj]
    split
    · rename_i h2
      rw [wholeL, wStep_getD _ _ _ _ _ hj]
      rw [if_neg (by omega)]
      unfold lknower
      rw [if_neg (by omega), if_neg (by omega)]
    · unfold lknower
      rw [if_neg (by omega), if_pos (by omega)]
  · unfold lknower
    rw [if_pos (by omega)]
def isWholeB (xss : List (List Int)) (ps : List Int) (but : Int) : Bool := (List.range 4).all fun (i : Nat) => decide ((i : Int) = but ∨ xss.getD i [] = ps.set i 0)
theorem isWholeB_iff (xss : List (List Int)) (ps : List Int) (but : Int) : isWholeB xss ps but = true ↔ ∀ i : Nat, i < 4 → ((i : Int) = but ∨ xss.getD i [] = ps.set i 0) := by
  unfold isWholeB
  rw [List.all_eq_true]
  exact ⟨fun h i hi => by simpa using h i (List.mem_range.2 hi), fun h i hi => by simpa using h i (List.mem_range.1 hi)⟩
theorem isWholeB_no {xss : List (List Int)} {ps : List Int} {but : Int} (i : Nat) (hi : i < 4) (h1 : ¬ (i : Int) = but) (h2 : ¬ xss.getD i [] = ps.set i 0) : isWholeB xss ps but = false := by
  rw [Bool.eq_false_iff]
  intro h
  rcases (isWholeB_iff xss ps but).1 h i hi with h | h
  · exact h1 h
  · exact h2 h
theorem isWhole_alike {xss : List (List Int)} (but : Int) (hs : Sq xss) (ho : ∀ i, i < 4 → (xss.getD i []).getD i 0 = 0) : isWholeB xss (wholeL xss but 4) but = alikeB xss but := by
  rw [Bool.eq_iff_iff, isWholeB_iff, alikeB_iff]
  constructor
  · intro h k hk i hi
    by_cases e1 : i = k
    · exact .inl e1
    · by_cases e2 : (i : Int) = but
      · exact .inr (.inl e2)
      · refine .inr (.inr ?_)
        have key : ∀ a : Nat, a < 4 → a ≠ k → (a : Int) ≠ but → pt xss a k = (wholeL xss but 4).getD k 0 := by
          intro a ha hak hab
          rcases h a ha with h' | h'
          · exact absurd h' hab
          · unfold pt
            rw [h', getD_set4 _ (wholeL_length ..) _ _ _ hk, if_neg hak]
        have hk1 := knower_ne k but
        have hk2 := knower_le k but
        rw [key i hi e1 e2, key (knower k but) (by omega) hk1.1 hk1.2]
  · intro h i hi
    by_cases e2 : (i : Int) = but
    · exact .inl e2
    · refine .inr (ext4 (hs.2 i hi) (by simp [wholeL_length]) fun j hj => ?_)
      rw [getD_set4 _ (wholeL_length ..) _ _ _ hj]
      by_cases e : i = j
      · rw [if_pos e, ← e]; exact ho i hi
      · rw [if_neg e, wholeL_getD _ _ _ hj]
        have hl := lknower_ne j but
        rcases h j hj i hi with h' | h' | h'
        · exact absurd h' e
        · exact absurd h' e2
        · rcases h j hj (lknower j but) (lknower_lt ..) with g | g | g
          · exact absurd g hl.1
          · exact absurd g hl.2
          · show pt xss i j = _
            rw [h', g]
/-- the sum of the first k parts -/
def psum (ps : List Int) : Nat → Int
  | 0 => 0
  | k + 1 => psum ps k + ps.getD k 0
theorem psum_alike {xss : List (List Int)} {but : Int} (h : alikeB xss but = true) : ∀ k, k ≤ 4 → psum (wholeL xss but 4) k = sumK xss but k
  | 0, _ => rfl
  | k + 1, hk => by
    rw [psum, sumK, psum_alike h k (by omega), wholeL_getD _ _ _ (by omega)]
    rcases (alikeB_iff xss but).1 h k (by omega) (lknower k but) (lknower_lt ..) with g | g | g
    · exact absurd g (lknower_ne k but).1
    · exact absurd g (lknower_ne k but).2
    · rw [g]
theorem addmod (s p q : Int) : (s % q + p) % q = (s + p) % q := by simp
/-- two arrays of four, held against one another -/
theorem eqIn4 (d : Nat) (a b c d' a' b' c' d'' : Int) (w : World) : (Op.equalIn (d + 2) 71 (.agg #[.int .i64 a, .int .i64 b, .int .i64 c, .int .i64 d']) (.agg #[.int .i64 a', .int .i64 b', .int .i64 c', .int .i64 d''])).run Tryz.prog w = .ok ((a == a') && ((b == b') && ((c == c') && (d' == d'')))) w := by
  have e := fun d t k a b h w => run_equalIn_int (P := Tryz.prog) w d t k .i64 a b h
  have hp : ∀ (a b c e : Int) w, (part 2 #[.int .i64 a, .int .i64 b, .int .i64 c, .int .i64 e] 0).run Tryz.prog w = .ok (.int .i64 a) w := fun _ _ _ _ _ => by kernel_rfl
  have hp1 : ∀ (a b c e : Int) w, (part 2 #[.int .i64 a, .int .i64 b, .int .i64 c, .int .i64 e] 1).run Tryz.prog w = .ok (.int .i64 b) w := fun _ _ _ _ _ => by kernel_rfl
  have hp2 : ∀ (a b c e : Int) w, (part 2 #[.int .i64 a, .int .i64 b, .int .i64 c, .int .i64 e] 2).run Tryz.prog w = .ok (.int .i64 c) w := fun _ _ _ _ _ => by kernel_rfl
  have hp3 : ∀ (a b c e : Int) w, (part 2 #[.int .i64 a, .int .i64 b, .int .i64 c, .int .i64 e] 3).run Tryz.prog w = .ok (.int .i64 e) w := fun _ _ _ _ _ => by kernel_rfl
  have hs : ∀ w, (sizeOf 2).run Tryz.prog w = .ok 1 w := fun _ => by kernel_rfl
  rw [Op.equalIn]
  simp only [Sem.run_bind, run_underlying Tryz.underlying71, Result.andThen_ok, hs]
  simp only [Std.Legacy.Range.forIn_eq_forIn_range', Std.Legacy.Range.size]
  by_cases h1 : a = a' <;> by_cases h2 : b = b' <;> by_cases h3 : c = c' <;> by_cases h4 : d' = d'' <;> simp [List.range', hp, hp1, hp2, hp3, e, Tryz.underlying2, h1, h2, h3, h4]
theorem run_neq4 (a b c d a' b' c' d' : Int) (w : World) : (binOp .neq 71 (.agg #[.int .i64 a, .int .i64 b, .int .i64 c, .int .i64 d]) (.agg #[.int .i64 a', .int .i64 b', .int .i64 c', .int .i64 d'])).run Tryz.prog w = .ok (.bool (!((a == a') && ((b == b') && ((c == c') && (d == d')))))) w := by
  simp only [binOp]
  simp [Op.equal, Op.maxDepth, eqIn4 9998]
set_option maxHeartbeats 4000000 in
set_option maxRecDepth 100000 in
theorem impl_isWhole (xss : List (List Int)) (ps : List Int) (but : Int) (w : World) (hs : Sq xss) (hp : ps.length = 4) :
    Calls Tryz.prog 43 #[ag2 xss, ag ps, .int .i64 but] w fun e w' => e = .returned (.bool (isWholeB xss ps but)) ∧ Below w.heap.size w w' := by
  have HS : Hid (Sq xss) := hs
  have HPL : Hid (ps.length = 4) := hp
  obtain ⟨a0, a1, a2, a3, b0, b1, b2, b3, c0, c1, c2, c3, d0, d1, d2, d3, hx⟩ := hs.lit
  have HX : Hid (xss = [[a0, a1, a2, a3], [b0, b1, b2, b3], [c0, c1, c2, c3], [d0, d1, d2, d3]]) := hx
  have e0 : ag2 xss = .agg #[.int .i64 a0, .int .i64 a1, .int .i64 a2, .int .i64 a3, .int .i64 b0, .int .i64 b1, .int .i64 b2, .int .i64 b3, .int .i64 c0, .int .i64 c1, .int .i64 c2, .int .i64 c3, .int .i64 d0, .int .i64 d1, .int .i64 d2, .int .i64 d3] := by rw [hx]; rfl
  rw [e0]
  clear e0 hs hx
  obtain ⟨p0, p1, p2, p3, hpp⟩ := four ps hp
  have HP : Hid (ps = [p0, p1, p2, p3]) := hpp
  have e1 : ag ps = .agg #[.int .i64 p0, .int .i64 p1, .int .i64 p2, .int .i64 p3] := by rw [hpp]; rfl
  rw [e1]
  clear e1 hpp hp
  have B0 : Below w.heap.size w ((w.alloc (.cells #[.int .i64 a0, .int .i64 a1, .int .i64 a2, .int .i64 a3, .int .i64 b0, .int .i64 b1, .int .i64 b2, .int .i64 b3, .int .i64 c0, .int .i64 c1, .int .i64 c2, .int .i64 c3, .int .i64 d0, .int .i64 d1, .int .i64 d2, .int .i64 d3] 73)).alloc (.cells #[.int .i64 p0, .int .i64 p1, .int .i64 p2, .int .i64 p3] 71)) := (by repeat (first | exact Below.refl _ _ | refine Below.drew ?_ | refine below_drewN ?_ _ | refine Below.setCell ?_ (by first | omega | (simp; done) | (simp; omega)) _ | refine Below.alloc ?_ (by first | omega | (simp; done) | (simp; omega)) _))
  have Y0 : Blk ((w.alloc (.cells #[.int .i64 a0, .int .i64 a1, .int .i64 a2, .int .i64 a3, .int .i64 b0, .int .i64 b1, .int .i64 b2, .int .i64 b3, .int .i64 c0, .int .i64 c1, .int .i64 c2, .int .i64 c3, .int .i64 d0, .int .i64 d1, .int .i64 d2, .int .i64 d3] 73)).alloc (.cells #[.int .i64 p0, .int .i64 p1, .int .i64 p2, .int .i64 p3] 71)) (w.heap.size + 1) 71 #[.int .i64 p0, .int .i64 p1, .int .i64 p2, .int .i64 p3] := by simpa using Blk.new (w.alloc (.cells #[.int .i64 a0, .int .i64 a1, .int .i64 a2, .int .i64 a3, .int .i64 b0, .int .i64 b1, .int .i64 b2, .int .i64 b3, .int .i64 c0, .int .i64 c1, .int .i64 c2, .int .i64 c3, .int .i64 d0, .int .i64 d1, .int .i64 d2, .int .i64 d3] 73)) 71 #[.int .i64 p0, .int .i64 p1, .int .i64 p2, .int .i64 p3]
  go_enter Tryz.func43, Tryz.ntmps43
  go_wp2
  go_loopw [10] (fun i wr => ∃ k : Nat, k ≤ 4 ∧ i = .int .i64 k ∧ (∀ j : Nat, j < k → ((j : Int) = but ∨ xss.getD j [] = ps.set j 0)) ∧ Blk wr (w.heap.size + 1) 71 #[.int .i64 p0, .int .i64 p1, .int .i64 p2, .int .i64 p3] ∧ Below w.heap.size w wr) (fun i _ => 4 - (intOf i).toNat)
  case atStart => exact ⟨0, Nat.zero_le _, rfl, fun j hj => by omega, Y0, B0⟩
  case round =>
    clear Y0 B0
    obtain ⟨k, hk, rfl, ha, Y, B⟩ := hrel
    have HA : Hid (∀ j : Nat, j < k → ((j : Int) = but ∨ xss.getD j [] = ps.set j 0)) := ha
    clear ha
    by_cases hlt : k < 4
    · obtain ⟨r0, r1, r2, r3, hr⟩ := HS.out.row k hlt
      have hidx := run_row a0 a1 a2 a3 b0 b1 b2 b3 c0 c1 c2 c3 d0 d1 d2 d3 k hlt r0 r1 r2 r3 (by rw [← HX.out]; exact hr)
      have HR : Hid (xss.getD k [] = [r0, r1, r2, r3]) := hr
      have hi' : (k : Int) < 4 := by omega
      have BW : Below w.heap.size w (wr.alloc (.cells #[.int .i64 r0, .int .i64 r1, .int .i64 r2, .int .i64 r3] 71)) := B.alloc B.size _
      have YW := Y.alloc (.cells #[.int .i64 r0, .int .i64 r1, .int .i64 r2, .int .i64 r3] 71)
      have ZW := Blk.new wr 71 #[.int .i64 r0, .int .i64 r1, .int .i64 r2, .int .i64 r3]
      have step : ((k : Int) = but ∨ xss.getD k [] = ps.set k 0) → Hid (∀ j : Nat, j < k + 1 → ((j : Int) = but ∨ xss.getD j [] = ps.set j 0)) := fun h j hj => by
        rcases Nat.lt_or_ge j k with h' | h'
        · exact HA.out j h'
        · rw [show j = k by omega]; exact h
      clear hr Y B
      have hS : (∀ o, (wr.alloc (.cells #[.int .i64 r0, .int .i64 r1, .int .i64 r2, .int .i64 r3] 71)).cell? ⟨w.heap.size + 1, o, none⟩ = (#[.int .i64 p0, .int .i64 p1, .int .i64 p2, .int .i64 p3] : Array Value)[o]?) ∧ (∀ o, (wr.alloc (.cells #[.int .i64 r0, .int .i64 r1, .int .i64 r2, .int .i64 r3] 71)).cell? ⟨wr.heap.size, o, none⟩ = (#[.int .i64 r0, .int .i64 r1, .int .i64 r2, .int .i64 r3] : Array Value)[o]?) := ⟨YW.at.1, ZW.at.1⟩
      by_cases hbut : (k : Int) = but
      · have HA' := step (.inl hbut)
        have hne : ((k : Int) != but) = false := by simpa using hbut
        clear hbut step
        go_wp2_with fail
        go_region
        all_goals
          go_wp2
          go_roundw
          case rel => exact ⟨k + 1, by omega, by go_num, HA'.out, YW, BW.drew⟩
          case measure => simp [intOf]; omega
      · have hne : ((k : Int) != but) = true := by simpa using hbut
        obtain ⟨s0, s1, s2, s3, hst⟩ := four (ps.set k 0) (by rw [List.length_set]; exact HPL.out)
        have HST : Hid (ps.set k 0 = [s0, s1, s2, s3]) := hst
        have K := fun w => impl_without ps k w HPL.out hlt
        rw [hst, ag4] at K
        rw [HP.out, ag4] at K
        clear hst
        have hq := run_neq4 r0 r1 r2 r3 s0 s1 s2 s3
        by_cases hsame : [r0, r1, r2, r3] = [s0, s1, s2, s3]
        · have HA' := step (.inr (by rw [HR.out, HST.out]; exact hsame))
          simp only [List.cons.injEq, and_true] at hsame
          have hq' : ∀ W, (binOp .neq 71 (.agg #[.int .i64 r0, .int .i64 r1, .int .i64 r2, .int .i64 r3]) (.agg #[.int .i64 s0, .int .i64 s1, .int .i64 s2, .int .i64 s3])).run Tryz.prog W = .ok (.bool false) W := fun W => by rw [hq W]; simp [hsame]
          clear hq hsame step hbut
          go_wp2_with fail
          go_region_held3 (fun V => (∀ o, V.cell? ⟨w.heap.size + 1, o, none⟩ = (#[.int .i64 p0, .int .i64 p1, .int .i64 p2, .int .i64 p3] : Array Value)[o]?) ∧ (∀ o, V.cell? ⟨wr.heap.size, o, none⟩ = (#[.int .i64 r0, .int .i64 r1, .int .i64 r2, .int .i64 r3] : Array Value)[o]?)) (first | exact hS | exact hS2) (first | (go_at_call 84; refine (K _).mono ?_; rintro e w9 ⟨rfl, hb9⟩; have YW2 := YW.drew.keep hb9; have ZW2 := ZW.drew.keep hb9; have BW2 := BW.drew.trans (hb9.mono BW.size); have hS2 := (show (∀ o, w9.cell? ⟨w.heap.size + 1, o, none⟩ = (#[.int .i64 p0, .int .i64 p1, .int .i64 p2, .int .i64 p3] : Array Value)[o]?) ∧ (∀ o, w9.cell? ⟨wr.heap.size, o, none⟩ = (#[.int .i64 r0, .int .i64 r1, .int .i64 r2, .int .i64 r3] : Array Value)[o]?) from ⟨YW2.at.1, ZW2.at.1⟩); clear hb9))
          go_wp2
          go_roundw
          case rel => exact ⟨k + 1, by omega, by go_num, HA'.out, YW2, BW2⟩
          case measure => simp [intOf]; omega
        · have HN : Hid (isWholeB xss ps but = false) := isWholeB_no k hlt hbut (by rw [HR.out, HST.out]; exact hsame)
          have hq' : ∀ W, (binOp .neq 71 (.agg #[.int .i64 r0, .int .i64 r1, .int .i64 r2, .int .i64 r3]) (.agg #[.int .i64 s0, .int .i64 s1, .int .i64 s2, .int .i64 s3])).run Tryz.prog W = .ok (.bool true) W := fun W => by
            rw [hq W]
            simp only [List.cons.injEq, and_true] at hsame
            congr 2
            simp
            omega
          clear hq hsame step hbut
          go_wp2_with fail
          go_region_held3 (fun V => (∀ o, V.cell? ⟨w.heap.size + 1, o, none⟩ = (#[.int .i64 p0, .int .i64 p1, .int .i64 p2, .int .i64 p3] : Array Value)[o]?) ∧ (∀ o, V.cell? ⟨wr.heap.size, o, none⟩ = (#[.int .i64 r0, .int .i64 r1, .int .i64 r2, .int .i64 r3] : Array Value)[o]?)) (first | exact hS | exact hS2) (first | (go_at_call 84; refine (K _).mono ?_; rintro e w9 ⟨rfl, hb9⟩; have YW2 := YW.drew.keep hb9; have ZW2 := ZW.drew.keep hb9; have BW2 := BW.drew.trans (hb9.mono BW.size); have hS2 := (show (∀ o, w9.cell? ⟨w.heap.size + 1, o, none⟩ = (#[.int .i64 p0, .int .i64 p1, .int .i64 p2, .int .i64 p3] : Array Value)[o]?) ∧ (∀ o, w9.cell? ⟨wr.heap.size, o, none⟩ = (#[.int .i64 r0, .int .i64 r1, .int .i64 r2, .int .i64 r3] : Array Value)[o]?) from ⟨YW2.at.1, ZW2.at.1⟩); clear hb9))
          go_wp2
          go_ret
          exact ⟨by rw [HN.out]; rfl, BW2⟩
    · obtain rfl : k = 4 := by omega
      have HN : Hid (isWholeB xss ps but = true) := (isWholeB_iff xss ps but).2 HA.out
      go_wp2
      go_ret
      exact ⟨by rw [HN.out]; rfl, B⟩
end Go.Proofs.YtepobckhfodngabGreat
