/-
  Contracts of chapter 3's model: what a mirror is worth; the exported functions that ask only.
-/
import Derived.Test.YtepobckhfodnganMirA
namespace Go.Proofs.Ytepobckhfodngan
open Go.ChangeShapes Go.WideShapes Go.ChangeAt Go.RowKit
set_option linter.unusedVariables false

theorem sumK_le {q : Int} {xss : List (List Int)} (but : Int) (hq : isQ q) (h : ∀ i j, 0 ≤ (xss.getD i []).getD j 0 ∧ (xss.getD i []).getD j 0 < q) : ∀ n : Nat, 0 ≤ sumK xss but n ∧ sumK xss but n ≤ 256 * n
  | 0 => by simp [sumK]
  | n + 1 => by
    have h1 := sumK_le but hq h n
    have h2 : 0 ≤ pt xss (knower n but) n ∧ pt xss (knower n but) n < q := h _ _
    rw [sumK]
    rcases hq with rfl | rfl <;> omega
theorem valueR_fault {q : Int} {xss : List (List Int)} (but : Int) (h : mirC q xss ≠ 0) : valueR q xss but = ⟨mirC q xss, 0⟩ := if_neg h
theorem valueR_but {q : Int} {xss : List (List Int)} {but : Int} (h : mirC q xss = 0) (k : isBut but = false) : valueR q xss but = ⟨3, 0⟩ := by unfold valueR; rw [if_pos h, if_neg (by simp [k])]
theorem valueR_state {q : Int} {xss : List (List Int)} {but : Int} (h : mirC q xss = 0) (k : isBut but = true) (a : alikeB xss but = false) : valueR q xss but = ⟨6, 0⟩ := by unfold valueR; rw [if_pos h, if_pos k, if_neg (by simp [a])]
theorem valueR_ok {q : Int} {xss : List (List Int)} {but : Int} (h : mirC q xss = 0) (k : isBut but = true) (a : alikeB xss but = true) : valueR q xss but = ⟨0, sumK xss but 4 % q⟩ := by unfold valueR; rw [if_pos h, if_pos k, if_pos a]
set_option maxHeartbeats 4000000 in
set_option maxRecDepth 100000 in
theorem spec_l3Value (b : Nat) (q : Int) (v : Value) (xss : List (List Int)) (but : Int) (w : World) (hb : Blk w b 30 #[.int .i64 q, v]) (hv : ReadsM w v xss) (hc : mirC q xss = 0) :
    Calls Try.prog 67 #[.pointer (some ⟨b, 0, none⟩), .int .i64 but] w fun e w' => e = .returned (.int .i64 (sumK xss but 4 % q)) ∧ Below w.heap.size w w' := by
  obtain ⟨hq, h4, hr, hx, _⟩ := mirC_zero hc
  obtain ⟨p, c, rfl⟩ := hv.shp
  have HP : Hid (∀ W, Below w.heap.size w W → ∀ i k, i < 4 → k < 4 → ∃ gb off g2 o2 d, p = some ⟨gb, off, none⟩ ∧ W.cell? ⟨gb, off + i, none⟩ = some (.slice (some ⟨g2, o2, none⟩) 4 d) ∧ W.cell? ⟨g2, o2 + k, none⟩ = some (.int .i64 (pt xss i k))) := fun W B i k hi hk => (hv.below B).part h4 hr i k hi hk
  have HS : Hid (∀ n : Nat, 0 ≤ sumK xss but n ∧ sumK xss but n ≤ 256 * n) := sumK_le but hq hx
  have HX : Hid (∀ i j, 0 ≤ pt xss i j ∧ pt xss i j < q) := hx
  rw [h4] at hb
  clear hv h4 hr hx hc
  go_enter Try.func67, Try.ntmps67
  go_wp2_with fail
  go_loopw [5, 6] (fun s i wr => ∃ k : Nat, k ≤ 4 ∧ i = .int .i64 k ∧ s = .int .i64 (sumK xss but k) ∧ Below w.heap.size w wr) (fun _ i _ => 4 - (intOf i).toNat)
  case atStart => exact ⟨0, Nat.zero_le _, rfl, rfl, Below.refl _ _⟩
  case round =>
    obtain ⟨k, hk, rfl, rfl, B⟩ := hrel
    have X := hb.below B hb.lt
    have ba := X.at.1
    by_cases hlt : k < 4
    · have hkn := knower_le k but
      obtain ⟨gb, off, g2, o2, d, rfl, c1, c2⟩ := HP.out wr B (knower k but) k (by omega) hlt
      have K := fun w => spec_l3Knower k but w hlt
      have hi : (k : Int) < 4 := by omega
      have hi0 : (0 : Int) ≤ (k : Int) := by omega
      have HE : Hid (sumK xss but (k + 1) = sumK xss but k + pt xss (knower k but) k) := rfl
      have hs := HS.out k
      have hz := HX.out (knower k but) k
      generalize pt xss (knower k but) k = z at *
      generalize knower k but = kn at *
      generalize sumK xss but k = s at *
      have hkn' : (kn : Int) < 4 := by omega
      have hz' : z < 256 := by rcases hq with h | h <;> omega
      have hs1 : s ≤ 1024 := by omega
      have hS : (∀ o, wr.cell? ⟨b, o, none⟩ = (#[.int .i64 q, .slice (some ⟨gb, off, none⟩) 4 c] : Array Value)[o]?) ∧ wr.cell? ⟨gb, off + kn, none⟩ = some (.slice (some ⟨g2, o2, none⟩) 4 d) ∧ wr.cell? ⟨g2, o2 + k, none⟩ = some (.int .i64 z) := ⟨ba, c1, c2⟩
      go_wp2_with fail
      go_region_held3 (fun V => (∀ o, V.cell? ⟨b, o, none⟩ = (#[.int .i64 q, .slice (some ⟨gb, off, none⟩) 4 c] : Array Value)[o]?) ∧ V.cell? ⟨gb, off + kn, none⟩ = some (.slice (some ⟨g2, o2, none⟩) 4 d) ∧ V.cell? ⟨g2, o2 + k, none⟩ = some (.int .i64 z)) (exact hS) (first | (go_at_call 78; refine (K _).mono ?_; rintro e w9 ⟨rfl, rfl⟩))
      clear hS c1 c2 ba X
      go_wp2
      go_roundw
      case rel => exact ⟨k + 1, by omega, by go_num, by rw [HE.out]; exact congrArg _ (by rw [IntWalk.i64_left]; exact IntWalk.wrap64_in _ ⟨by omega, by omega⟩), B.drew⟩
      case measure => simp [intOf]; omega
    · obtain rfl : k = 4 := by omega
      have hs := HS.out 4
      have hs1 : sumK xss but 4 ≤ 1024 := by omega
      generalize hs4 : sumK xss but 4 = s at *
      have HS4 : Hid (sumK xss but 4 = s) := hs4
      clear hs4
      go_wp2_with fail
      refine (spec_l1Mod _ _ _ (by rcases hq with h | h <;> omega) (by rcases hq with h | h <;> omega)).mono ?_
      rintro e w' ⟨rfl, rfl⟩
      go_wp2
      go_ret
      exact ⟨by rw [HS4.out]; rfl, B⟩
set_option maxHeartbeats 1000000 in
theorem spec_ValueOf (v : Value) (x : MMirror) (but : Int) (w : World) (hv : RdMirror w v x) :
    Calls Try.prog 39 #[v, .int .i64 but] w fun e w' => ∃ u, e = .returned u ∧ RdIntResult w' u (valueR x.xQ x.xViews but) ∧ Below w.heap.size w w' := by
  obtain ⟨p, c, rfl, hv⟩ := hv
  obtain ⟨q, xss⟩ := x
  dsimp only at hv ⊢
  have B0 : Below w.heap.size w ((w.alloc (.cells #[.int .i64 q, .slice p xss.length c] 30)).alloc (.cells #[.int .i64 0, .int .i64 0] 40)) := (by repeat (first | exact Below.refl _ _ | refine Below.drew ?_ | refine below_drewN ?_ _ | refine Below.setCell ?_ (by first | omega | (simp; done) | (simp; omega)) _ | refine Below.alloc ?_ (by first | omega | (simp; done) | (simp; omega)) _))
  have X0 := (Blk.new w 30 #[.int .i64 q, .slice p xss.length c]).alloc (.cells #[.int .i64 0, .int .i64 0] 40)
  have Y0 : Blk ((w.alloc (.cells #[.int .i64 q, .slice p xss.length c] 30)).alloc (.cells #[.int .i64 0, .int .i64 0] 40)) (w.heap.size + 1) 40 #[.int .i64 0, .int .i64 0] := by simpa using Blk.new (w.alloc (.cells #[.int .i64 q, .slice p xss.length c] 30)) 40 #[.int .i64 0, .int .i64 0]
  have K := fun b w h1 h2 => spec_l3Fault b q (.slice p xss.length c) xss w h1 h2
  by_cases h0 : mirC q xss = 0
  · obtain ⟨_, h4, hr, _, _⟩ := mirC_zero h0
    have KA := fun b w h1 h2 => spec_l3Alike b q (.slice p xss.length c) xss but w h1 h2 h4 hr
    have KV := fun b w h1 h2 => spec_l3Value b q (.slice p xss.length c) xss but w h1 h2 h0
    have HR := @valueR_but q xss but h0
    have HR2 := @valueR_state q xss but h0
    have HR3 := @valueR_ok q xss but h0
    rw [h0] at K
    clear h0 h4 hr
    go_enter Try.func39, Try.ntmps39
    go_wp2_with fail
    refine (K _ _ X0 (hv.below B0)).mono ?_
    rintro e w1 ⟨rfl, hb1⟩
    replace Y0 := Y0.keep hb1
    replace X0 := X0.keep hb1
    replace B0 : Below w.heap.size w w1 := B0.trans (hb1.mono B0.size)
    go_wp2_with fail
    refine (spec_l3But _ _).mono ?_
    rintro e w2 ⟨rfl, rfl⟩
    cases hbt : isBut but
    · have ya := Y0.at.1
      have yb := Y0.at.2
      go_wp2
      exact bodyPost_ret (v := .agg #[.int .i64 3, .int .i64 0]) (by simp [results, Try.results39, go_sem, ya]) rfl ⟨_, rfl, by rw [HR hbt]; rfl, (by have zz0 := (B0).size; (try simp at zz0); repeat (first | exact Below.refl _ _ | refine Below.drew ?_ | refine below_drewN ?_ _ | refine Below.setCell ?_ (by first | omega | (simp; done) | (simp; omega)) _ | refine Below.alloc ?_ (by first | omega | (simp; done) | (simp; omega)) _ | refine bcall ?_ B0 (by first | omega | (simp; done) | (simp; omega))))⟩
    · go_wp2_with fail
      refine (KA _ _ X0 (hv.below B0)).mono ?_
      rintro e w2 ⟨rfl, hb2⟩
      replace Y0 := Y0.keep hb2
      replace X0 := X0.keep hb2
      replace B0 : Below w.heap.size w w2 := B0.trans (hb2.mono B0.size)
      cases ha : alikeB xss but
      · have ya := Y0.at.1
        have yb := Y0.at.2
        go_wp2
        exact bodyPost_ret (v := .agg #[.int .i64 6, .int .i64 0]) (by simp [results, Try.results39, go_sem, ya]) rfl ⟨_, rfl, by rw [HR2 hbt ha]; rfl, (by have zz0 := (B0).size; (try simp at zz0); repeat (first | exact Below.refl _ _ | refine Below.drew ?_ | refine below_drewN ?_ _ | refine Below.setCell ?_ (by first | omega | (simp; done) | (simp; omega)) _ | refine Below.alloc ?_ (by first | omega | (simp; done) | (simp; omega)) _ | refine bcall ?_ B0 (by first | omega | (simp; done) | (simp; omega))))⟩
      · go_wp2_with fail
        refine (KV _ _ X0 (hv.below B0)).mono ?_
        rintro e w3 ⟨rfl, hb3⟩
        replace Y0 := Y0.keep hb3
        replace B0 : Below w.heap.size w w3 := B0.trans (hb3.mono B0.size)
        have ya := Y0.at.1
        have yb := Y0.at.2
        go_wp2
        exact bodyPost_ret (v := .agg #[.int .i64 0, .int .i64 (sumK xss but 4 % q)]) (by simp [results, Try.results39, go_sem, ya]) rfl ⟨_, rfl, by rw [HR3 hbt ha]; rfl, (by have zz0 := (B0).size; (try simp at zz0); repeat (first | exact Below.refl _ _ | refine Below.drew ?_ | refine below_drewN ?_ _ | refine Below.setCell ?_ (by first | omega | (simp; done) | (simp; omega)) _ | refine Below.alloc ?_ (by first | omega | (simp; done) | (simp; omega)) _ | refine bcall ?_ B0 (by first | omega | (simp; done) | (simp; omega))))⟩
  · rw [valueR_fault _ h0]
    have hne : (mirC q xss == 0) = false := by simpa using h0
    clear h0
    generalize mirC q xss = r at *
    go_enter Try.func39, Try.ntmps39
    go_wp2_with fail
    refine (K _ _ X0 (hv.below B0)).mono ?_
    rintro e w1 ⟨rfl, hb1⟩
    replace Y0 := Y0.keep hb1
    replace B0 : Below w.heap.size w w1 := B0.trans (hb1.mono B0.size)
    have ya := Y0.at.1
    have yb := Y0.at.2
    go_wp2
    exact bodyPost_ret (v := .agg #[.int .i64 r, .int .i64 0]) (by simp [results, Try.results39, go_sem, ya]) rfl ⟨_, rfl, rfl, (by have zz0 := (B0).size; (try simp at zz0); repeat (first | exact Below.refl _ _ | refine Below.drew ?_ | refine below_drewN ?_ _ | refine Below.setCell ?_ (by first | omega | (simp; done) | (simp; omega)) _ | refine Below.alloc ?_ (by first | omega | (simp; done) | (simp; omega)) _ | refine bcall ?_ B0 (by first | omega | (simp; done) | (simp; omega))))⟩
end Go.Proofs.Ytepobckhfodngan
