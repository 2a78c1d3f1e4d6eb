/-
  Contracts of chapter 6 of the program: OpenMirror.
-/
import Derived.Test.YtcnbkdpmcohlgamOpn
import Derived.Test.YtcnbkdpmcohlgamMirJ
namespace Go.Proofs.Ytcnbkdpmcohlgam
open Go.ChangeShapes Go.WideShapes Go.ChangeAt Go.RowKit
set_option linter.unusedVariables false
/-- there is something for each of the four -/
def openOk (q : Int) (xss : List (List Int)) (who by' : Int) : Prop := ∀ k, k < 4 → (partM q xss k who by').1 = 0
def openL (q : Int) (xss : List (List Int)) (who by' : Int) : List Int := [openV q xss 0 who by', openV q xss 1 who by', openV q xss 2 who by', openV q xss 3 who by']
instance (q : Int) (xss : List (List Int)) (who by' : Int) : Decidable (openOk q xss who by') := by unfold openOk; infer_instance
def openR (q : Int) (xss : List (List Int)) (who by' : Int) : MOpenResult := if mirC q xss = 0 then (if isLieB who by' = true then (if openOk q xss who by' then ⟨0, openL q xss who by'⟩ else ⟨4, []⟩) else ⟨3, []⟩) else ⟨mirC q xss, []⟩
theorem openR_fault {q : Int} {xss : List (List Int)} {who by' : Int} (h : mirC q xss ≠ 0) : openR q xss who by' = ⟨mirC q xss, []⟩ := by unfold openR; rw [if_neg h]
theorem openR_out {q : Int} {xss : List (List Int)} {who by' : Int} (h : mirC q xss = 0) (k : ¬ isLieB who by' = true) : openR q xss who by' = ⟨3, []⟩ := by unfold openR; rw [if_pos h, if_neg k]
theorem openR_none {q : Int} {xss : List (List Int)} {who by' : Int} (h : mirC q xss = 0) (k : isLieB who by' = true) (o : ¬ openOk q xss who by') : openR q xss who by' = ⟨4, []⟩ := by unfold openR; rw [if_pos h, if_pos k, if_neg o]
theorem openR_ok {q : Int} {xss : List (List Int)} {who by' : Int} (h : mirC q xss = 0) (k : isLieB who by' = true) (o : openOk q xss who by') : openR q xss who by' = ⟨0, openL q xss who by'⟩ := by unfold openR; rw [if_pos h, if_pos k, if_pos o]
theorem openR_cnt (q : Int) (xss : List (List Int)) (who by' : Int) : cntOpenResult (openR q xss who by') ≤ 268435456 := by
  unfold openR
  split
  · split
    · split <;> simp [cntOpenResult, openL]
    · simp [cntOpenResult]
  · simp [cntOpenResult]
/-- the first k are laid, all others are 0 -/
def opC (f : Nat → Int) (k : Nat) : Array Value := #[.int .i64 (if 0 < k then f 0 else 0), .int .i64 (if 1 < k then f 1 else 0), .int .i64 (if 2 < k then f 2 else 0), .int .i64 (if 3 < k then f 3 else 0)]
theorem opC_set (f : Nat → Int) (k : Nat) (hk : k < 4) : (opC f k).setIfInBounds k (.int .i64 (f k)) = opC f (k + 1) := by
  refine four_cases (P := fun k => (opC f k).setIfInBounds k (.int .i64 (f k)) = opC f (k + 1)) k hk ?_ ?_ ?_ ?_ <;> rfl
theorem opC_get (f : Nat → Int) (k j : Nat) (hj : j < 4) : ∃ y, (opC f k)[j]? = some (.int .i64 y) := by
  refine four_cases (P := fun j => ∃ y, (opC f k)[j]? = some (.int .i64 y)) j hj ?_ ?_ ?_ ?_ <;> exact ⟨_, rfl⟩
def AgrO (ok : Prop) (l : List Int) (b : Nat) (w' : World) (e : Ending) : Prop := (ok ∧ ∃ g, e = .returned (.agg #[.int .i64 0, .slice (some ⟨g, 0, none⟩) 4 4]) ∧ Ints w' (.slice (some ⟨g, 0, none⟩) 4 4) l [g] ∧ b ≤ g) ∨ (¬ ok ∧ ∃ pv, e = .panicked [{ v := .iface 9 pv, recovered := false }])
set_option maxHeartbeats 8000000 in
set_option maxRecDepth 100000 in
theorem impl_OpenMirror_1 (ab mb wb yb : Nat) (v : Value) (xss : List (List Int)) (q who by' : Int) (w : World) (hs : Sq xss) (hq : q = 2 ∨ q = 256) (hx : ∀ i j, 0 ≤ (xss.getD i []).getD j 0 ∧ (xss.getD i []).getD j 0 < q) (hwho : -1 ≤ who ∧ who ≤ 3) (hby : 0 ≤ by' ∧ by' ≤ 255)
    (X : Blk w ab 72 (cells2 xss)) (Y : Blk w mb 30 #[.int .i64 q, v]) (Z1 : Blk w wb 2 #[.int .i64 who]) (Z2 : Blk w yb 2 #[.int .i64 by']) :
    Calls Try.prog 43 #[.pointer (some ⟨ab, 0, none⟩), .pointer (some ⟨mb, 0, none⟩), .pointer (some ⟨wb, 0, none⟩), .pointer (some ⟨yb, 0, none⟩)] w fun e w' => AgrO (openOk q xss who by') (openL q xss who by') w.heap.size w' e ∧ Below w.heap.size w w' := by
  have K := fun n V hn => impl_opened xss q n who by' V hs hn hq hx hwho hby
  have HO : Hid (openOk q xss who by' ↔ ∀ k, k < 4 → (partM q xss k who by').1 = 0) := Iff.rfl
  have HL : Hid (openL q xss who by' = [openV q xss 0 who by', openV q xss 1 who by', openV q xss 2 who by', openV q xss 3 who by']) := rfl
  generalize openOk q xss who by' = OK at *
  generalize openL q xss who by' = LL at *
  obtain ⟨ov, hov⟩ : ∃ ov : Nat → Int, ∀ n, openV q xss n who by' = ov n := ⟨_, fun _ => rfl⟩
  obtain ⟨mc, hmc⟩ : ∃ mc : Nat → Int, ∀ n, (partM q xss n who by').1 = mc n := ⟨_, fun _ => rfl⟩
  simp only [hov, hmc] at K HL HO
  clear hov hmc
  obtain ⟨a0, a1, a2, a3, b0, b1, b2, b3, c0, c1, c2, c3, d0, d1, d2, d3, rfl⟩ := hs.lit
  rw [show ag2 [[a0, a1, a2, a3], [b0, b1, b2, b3], [c0, c1, c2, c3], [d0, d1, d2, d3]] = .agg #[.int .i64 a0, .int .i64 a1, .int .i64 a2, .int .i64 a3, .int .i64 b0, .int .i64 b1, .int .i64 b2, .int .i64 b3, .int .i64 c0, .int .i64 c1, .int .i64 c2, .int .i64 c3, .int .i64 d0, .int .i64 d1, .int .i64 d2, .int .i64 d3] from rfl] at K
  rw [show cells2 [[a0, a1, a2, a3], [b0, b1, b2, b3], [c0, c1, c2, c3], [d0, d1, d2, d3]] = #[.int .i64 a0, .int .i64 a1, .int .i64 a2, .int .i64 a3, .int .i64 b0, .int .i64 b1, .int .i64 b2, .int .i64 b3, .int .i64 c0, .int .i64 c1, .int .i64 c2, .int .i64 c3, .int .i64 d0, .int .i64 d1, .int .i64 d2, .int .i64 d3] from rfl] at X
  clear hs hx hwho hby
  have hmk : ∀ w, (Instr.makeSlice 26 (.int .i64 4) (.int .i64 4)).run Try.prog w = .ok (.slice (some ⟨w.heap.size, 0, none⟩) 4 4) (w.alloc (.cells #[.int .i64 0, .int .i64 0, .int .i64 0, .int .i64 0] 2)) := fun w => by kernel_rfl
  obtain ⟨W0, eW0⟩ : ∃ x, x = (w.alloc (.cells #[.int .i64 0, .slice none 0 0] 28)).alloc (.cells #[.int .i64 0, .int .i64 0, .int .i64 0, .int .i64 0] 2) := ⟨_, rfl⟩
  have B0 : Below w.heap.size w W0 := by rw [eW0]; exact (by repeat (first | exact Below.refl _ _ | refine Below.drew ?_ | refine below_drewN ?_ _ | refine Below.setCell ?_ (by first | omega | (simp; done) | (simp; omega)) _ | refine Below.alloc ?_ (by first | omega | (simp; done) | (simp; omega)) _))
  have R0 : Blk W0 w.heap.size 28 #[.int .i64 0, .slice none 0 0] := by rw [eW0]; exact (Blk.new w _ _).alloc _
  have V0 : Blk W0 (w.heap.size + 1) 2 (opC ov 0) := by
    rw [eW0]
    have := Blk.new (w.alloc (.cells #[.int .i64 0, .slice none 0 0] 28)) 2 #[.int .i64 0, .int .i64 0, .int .i64 0, .int .i64 0]
    simpa [opC] using this
  have xl := X.lt
  have yl := Y.lt
  have z1l := Z1.lt
  have z2l := Z2.lt
  go_enter Try.func43, Try.ntmps43
  go_wp2_with fail
  rw [← eW0]
  clear eW0
  go_loopw [10] (fun c wr => ∃ n : Nat, n ≤ 4 ∧ c = .int .i64 n ∧ (∀ k, k < n → mc k = 0) ∧ Blk wr w.heap.size 28 #[.int .i64 0, .slice none 0 0] ∧ Blk wr (w.heap.size + 1) 2 (opC ov n) ∧ Below w.heap.size w wr) (fun c _ => 4 - (intOf c).toNat)
  case atStart => exact ⟨0, Nat.zero_le _, rfl, fun k hk => by omega, R0, V0, B0⟩
  case round =>
    clear R0 V0 B0
    obtain ⟨n, hn, rfl, hmc, R, V, B⟩ := hrel
    have HC : Hid (∀ k, k < n → mc k = 0) := hmc
    clear hmc
    by_cases hlt : n < 4
    · have hi : (n : Int) < 4 := by omega
      have Xa := (X.below B xl).at.1
      have Ya := (Y.below B yl).at.1
      have Z1a := (Z1.below B z1l).at.1
      have Z2a := (Z2.below B z2l).at.1
      have m1 := Nat.lt_of_lt_of_le xl B.size
      have m2 := Nat.lt_of_lt_of_le yl B.size
      have m3 := Nat.lt_of_lt_of_le z1l B.size
      have m4 := Nat.lt_of_lt_of_le z2l B.size
      have KN := fun V => K n V hlt
      go_wp2_with fail
      clear Xa Ya Z1a Z2a m1 m2 m3 m4
      refine (KN _).mono ?_
      rintro e w2 ⟨hA, hb2⟩
      replace R := R.keep hb2
      replace V := V.keep hb2
      replace B := B.trans (hb2.mono B.size)
      clear hb2 KN
      rcases hA with ⟨h0, rfl⟩ | ⟨h0, pv, rfl⟩
      · have HC' : Hid (∀ k, k < n + 1 → mc k = 0) := fun k hk => by
          rcases Nat.lt_or_ge k n with h | h
          · exact HC.out k h
          · rw [show k = n by omega]; exact h0
        have HS : Hid (Blk (w2.setCell ⟨w.heap.size + 1, n, none⟩ (.int .i64 (ov n))) (w.heap.size + 1) 2 (opC ov (n + 1))) := by
          have := V.set n (.int .i64 (ov n))
          rw [opC_set ov n hlt] at this
          exact this
        obtain ⟨y, hy⟩ := opC_get ov n n hlt
        have va : w2.cell? ⟨w.heap.size + 1, n, none⟩ = some (.int .i64 y) := (V.at.1 n).trans hy
        have vb := V.at.2 n
        have vl := V.lt
        clear h0
        dsimp only
        go_wp2
        clear va vb vl hy
        go_roundw
        case rel => exact ⟨n + 1, by omega, by go_num, HC'.out, R.setOther _ _ (by simp), HS.out, B.setCell (by simp) _⟩
        case measure => simp [intOf]; omega
      · exact ⟨rfl, .inr ⟨fun h => h0 (HO.out.1 h n hlt), pv, rfl⟩, B⟩
    · obtain rfl : n = 4 := by omega
      have ra := R.at.1
      have rb := R.at.2
      have rl := R.lt
      have HI : Hid (Ints wr (.slice (some ⟨w.heap.size + 1, 0, none⟩) 4 4) LL [w.heap.size + 1]) := by
        refine ⟨2, ?_⟩
        rw [HL.out]
        exact ⟨by simp, .inr ⟨w.heap.size + 1, 4, _, rfl, rfl, V, by simp, by unfold maxLen; omega, rfl, rfl⟩⟩
      go_wp2
      refine bodyPost_ret (v := .agg #[.int .i64 0, .slice (some ⟨w.heap.size + 1, 0, none⟩) 4 4]) (by simp [results, Try.results43, go_sem, ra]) rfl ⟨.inl ⟨HO.out.2 HC.out, w.heap.size + 1, rfl, ?_, by omega⟩, (by have zz0 := (B).size; (try simp at zz0); repeat (first | exact Below.refl _ _ | refine Below.drew ?_ | refine below_drewN ?_ _ | refine Below.setCell ?_ (by first | omega | (simp; done) | (simp; omega)) _ | refine Below.alloc ?_ (by first | omega | (simp; done) | (simp; omega)) _ | refine bcall ?_ B (by first | omega | (simp; done) | (simp; omega))))⟩
      exact (HI.out.setOther _ _ (by simp)).setOther _ _ (by simp)
end Go.Proofs.Ytcnbkdpmcohlgam
