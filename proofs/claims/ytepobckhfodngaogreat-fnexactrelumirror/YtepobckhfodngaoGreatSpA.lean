/-
  Rows of products in the model: what a party's views tell at two places together, and its own products of a part, over all terms.
-/
import Derived.Test.YtepobckhfodngaoGreatDotM0
import Derived.Test.YtepobckhfodngaoGreatMrS
import Derived.Test.YtepobckhfodngaoGreatDotB
import Derived.Test.YtepobckhfodngaoGreatDotP
import Derived.Deep.QuietTactic
import Derived.BigQuiet
namespace Go.Proofs.YtepobckhfodngaoGreat
open Go.ChangeShapes Go.WideShapes Go.ChangeAt Go.RowKit
set_option linter.unusedVariables false

/-- the views of mirrors -/
def vsOf (xs : List MMirror) : List (List (List Int)) := xs.map (·.xViews)
theorem vsOf_getD (xs : List MMirror) (t : Nat) (h : t < xs.length) : (vsOf xs).getD t [] = (xs.getD t zM).xViews := by simp [vsOf, h]
theorem RdMirrorS.shape {w : World} {v : Value} {xs : List MMirror} {n : Nat} (h : RdMirrorS w v xs) (hn : xs.length = n) (h0 : 1 ≤ n) : ∃ g o c, v = .slice (some ⟨g, o, none⟩) n c ∧ g < w.heap.size := by
  obtain ⟨a, c, rfl, _, hr⟩ := h
  obtain ⟨g, o, rfl, hl, _⟩ := hr (by intro h; rw [h] at hn; simp at hn; omega)
  exact ⟨g, o, c, by rw [hn], hl⟩
/-- where a party's view of a term lies -/
theorem RdMirrorS.chain {w : World} {g o n c : Nat} {xs : List MMirror} (h : RdMirrorS w (.slice (some ⟨g, o, none⟩) n c) xs) (t p : Nat) (ht : t < xs.length) (hs : Sq ((vsOf xs).getD t [])) (hp : p < 4) :
    ∃ gv ov cv gr orr cr, w.cell? ⟨g, o + t * 2 + 1, none⟩ = some (.slice (some ⟨gv, ov, none⟩) 4 cv) ∧ w.cell? ⟨gv, ov + p, none⟩ = some (.slice (some ⟨gr, orr, none⟩) 4 cr) ∧ ∀ k, k < 4 → w.cell? ⟨gr, orr + k, none⟩ = some (.int .i64 (pt ((vsOf xs).getD t []) p k)) := by
  obtain ⟨a, cap, e, _, hr⟩ := h
  simp only [Value.slice.injEq] at e
  obtain ⟨rfl, rfl, rfl⟩ := e
  obtain ⟨b, off, e, _, hc⟩ := hr (by intro h; rw [h] at ht; simp at ht)
  simp only [Option.some.injEq, Addr.mk.injEq, and_true] at e
  obtain ⟨rfl, rfl⟩ := e
  obtain ⟨q, c', h0, h1, hR⟩ := hc t ht
  rw [← vsOf_getD xs t ht] at h1 hR
  generalize (vsOf xs).getD t [] = vs at *
  rw [hs.1] at h1 hR
  obtain ⟨a2, cap2, e2, _, hr2⟩ := hR
  rw [hs.1] at e2
  simp only [Value.slice.injEq, true_and] at e2
  obtain ⟨rfl, rfl⟩ := e2
  obtain ⟨gv, ov, rfl, _, hc2⟩ := hr2 (by intro h; have := hs.1; rw [h] at this; simp at this)
  obtain ⟨q3, c3, g1, hR3⟩ := hc2 p (by rw [hs.1]; exact hp)
  rw [hs.2 p hp] at g1 hR3
  obtain ⟨a4, cap4, e4, _, hr4⟩ := hR3
  rw [hs.2 p hp] at e4
  simp only [Value.slice.injEq, true_and] at e4
  obtain ⟨rfl, rfl⟩ := e4
  obtain ⟨gr, orr, rfl, _, hc4⟩ := hr4 (by intro h; have := hs.2 p hp; rw [h] at this; simp at this)
  exact ⟨gv, ov, _, gr, orr, _, h1, g1, fun k hk => hc4 k (by rw [hs.2 p hp]; exact hk)⟩
theorem pt_small {q : Int} {vss : List (List (List Int))} (hq : q = 2 ∨ q = 256) (h : BdT q vss) (t i j : Nat) : 0 ≤ pt (vss.getD t []) i j ∧ pt (vss.getD t []) i j ≤ 255 := by have := h t i j; omega
theorem crN_bd {q : Int} {xss yss : List (List (List Int))} (hq : q = 2 ∨ q = 256) (hx : BdT q xss) (hy : BdT q yss) (p i j : Nat) : ∀ t : Nat, 0 ≤ crN xss yss p i j t ∧ crN xss yss p i j t ≤ 130050 * (t : Int)
  | 0 => by simp [crN]
  | t + 1 => by
    have h := crN_bd hq hx hy p i j t
    have := cross_small (pt_small hq hx t p i) (pt_small hq hy t p j) (pt_small hq hx t p j) (pt_small hq hy t p i)
    rw [crN]
    omega
theorem sqN_bd {q : Int} {xss yss : List (List (List Int))} (hq : q = 2 ∨ q = 256) (hx : BdT q xss) (hy : BdT q yss) (p k : Nat) : ∀ t : Nat, 0 ≤ sqN xss yss p k t ∧ sqN xss yss p k t ≤ 65025 * (t : Int)
  | 0 => by simp [sqN]
  | t + 1 => by
    have h := sqN_bd hq hx hy p k t
    have := cross_small (pt_small hq hx t p k) (pt_small hq hy t p k) (pt_small hq hx t p k) (pt_small hq hy t p k)
    rw [sqN]
    omega
set_option maxHeartbeats 2000000 in
set_option maxRecDepth 100000 in
theorem spec_l5Cross (q : Int) (v u : Value) (n : Nat) (xs ys : List MMirror) (p i j : Nat) (w : World) (hv : RdMirrorS w v xs) (hu : RdMirrorS w u ys) (hx : xs.length = n) (hy : ys.length = n) (hq : q = 2 ∨ q = 256) (hn : 1 ≤ n ∧ n ≤ 6) (sx : ∀ t, t < n → Sq ((vsOf xs).getD t [])) (sy : ∀ t, t < n → Sq ((vsOf ys).getD t [])) (bx : BdT q (vsOf xs)) (by' : BdT q (vsOf ys)) (hp : p < 4) (hi : i < 4) (hj : j < 4) :
    Calls Tryz.prog 110 #[.int .i64 q, v, u, .int .i64 p, .int .i64 i, .int .i64 j] w fun e w' => e = .returned (.int .i64 (crN (vsOf xs) (vsOf ys) p i j n % q)) ∧ Below w.heap.size w w' := by
  obtain ⟨ga, oa, ca, rfl, la⟩ := hv.shape hx hn.1
  obtain ⟨gb, ob, cb, rfl, lb⟩ := hu.shape hy hn.1
  have HV : Hid (∀ W, Below w.heap.size w W → RdMirrorS W (.slice (some ⟨ga, oa, none⟩) n ca) xs) := fun W B => hv.below B
  have HU : Hid (∀ W, Below w.heap.size w W → RdMirrorS W (.slice (some ⟨gb, ob, none⟩) n cb) ys) := fun W B => hu.below B
  have HL : Hid (xs.length = n ∧ ys.length = n) := ⟨hx, hy⟩
  have HP : Hid (p < 4 ∧ i < 4 ∧ j < 4) := ⟨hp, hi, hj⟩
  have HSX : Hid (∀ t, t < n → Sq ((vsOf xs).getD t [])) := sx
  have HSY : Hid (∀ t, t < n → Sq ((vsOf ys).getD t [])) := sy
  have HBX : Hid (BdT q (vsOf xs)) := bx
  have HBY : Hid (BdT q (vsOf ys)) := by'
  have HQ : Hid (q = 2 ∨ q = 256) := hq
  have q1 : 1 ≤ q := by omega
  have q2 : q ≤ 256 := by omega
  have hp1 : (p : Int) < 4 := by omega
  have hi1 : (i : Int) < 4 := by omega
  have hj1 : (j : Int) < 4 := by omega
  have hp0 : (0 : Int) ≤ (p : Int) := by omega
  have hi0 : (0 : Int) ≤ (i : Int) := by omega
  have hj0 : (0 : Int) ≤ (j : Int) := by omega
  clear sx sy bx by' hx hy hp hi hj hq hv hu
  go_enter Tryz.func110, Tryz.ntmps110
  go_wp2
  go_loopw [13, 14] (fun s z wr => ∃ t : Nat, t ≤ n ∧ z = .int .i64 t ∧ s = .int .i64 (crN (vsOf xs) (vsOf ys) p i j t) ∧ Below w.heap.size w wr) (fun _ z _ => n - (intOf z).toNat)
  case atStart => exact ⟨0, Nat.zero_le _, rfl, rfl, Below.refl _ _⟩
  case round =>
    obtain ⟨t, ht, rfl, rfl, B⟩ := hrel
    have hcb := crN_bd HQ.out HBX.out HBY.out p i j t
    by_cases hlt : t < n
    · obtain ⟨gv, ov, cv, gr, orr, cr, x1, x2, x3⟩ := (HV.out wr B).chain t p (by rw [HL.out.1]; exact hlt) (HSX.out t hlt) HP.out.1
      obtain ⟨gv', ov', cv', gr', orr', cr', y1, y2, y3⟩ := (HU.out wr B).chain t p (by rw [HL.out.2]; exact hlt) (HSY.out t hlt) HP.out.1
      have xi := x3 i HP.out.2.1
      have xj := x3 j HP.out.2.2
      have yi := y3 i HP.out.2.1
      have yj := y3 j HP.out.2.2
      have hb := cross_small (pt_small HQ.out HBX.out t p i) (pt_small HQ.out HBY.out t p j) (pt_small HQ.out HBX.out t p j) (pt_small HQ.out HBY.out t p i)
      have HST : Hid (crN (vsOf xs) (vsOf ys) p i j (t + 1) = crN (vsOf xs) (vsOf ys) p i j t + (pt ((vsOf xs).getD t []) p i * pt ((vsOf ys).getD t []) p j + pt ((vsOf xs).getD t []) p j * pt ((vsOf ys).getD t []) p i)) := rfl
      have hlt' : (t : Int) < (n : Int) := by omega
      have ht0 : (0 : Int) ≤ (t : Int) := by omega
      clear x3 y3
      generalize pt ((vsOf xs).getD t []) p i = a at *
      generalize pt ((vsOf xs).getD t []) p j = b at *
      generalize pt ((vsOf ys).getD t []) p j = c at *
      generalize pt ((vsOf ys).getD t []) p i = d at *
      generalize crN (vsOf xs) (vsOf ys) p i j t = s at *
      have HAB : Hid ((0 ≤ a * c ∧ a * c ≤ 65025) ∧ (0 ≤ b * d ∧ b * d ≤ 65025)) := hb
      have HSB : Hid (0 ≤ s ∧ s ≤ 130050 * (t : Int)) := hcb
      have w1 : IntKind.i64.wrap (a * c) = a * c := by rw [IntKind.wrap_i64]; have := HAB.out; omega
      have w2 : IntKind.i64.wrap (b * d) = b * d := by rw [IntKind.wrap_i64]; have := HAB.out; omega
      have w3 : IntKind.i64.wrap (s + a * c) = s + a * c := by rw [IntKind.wrap_i64]; have := HAB.out; have := HSB.out; omega
      have w4 : IntKind.i64.wrap (s + a * c + b * d) = s + a * c + b * d := by rw [IntKind.wrap_i64]; have := HAB.out; have := HSB.out; omega
      clear hb hcb
      go_wp2_with fail
      go_quiet (fail)
      go_wp2
      go_roundw
      case rel => exact ⟨t + 1, by omega, by go_num, by rw [HST.out]; congr 1; omega, below_drewN B _⟩
      case measure => simp [intOf]; omega
    · obtain rfl : t = n := by omega
      generalize hs : crN (vsOf xs) (vsOf ys) p i j t = s at *
      have HS : Hid (crN (vsOf xs) (vsOf ys) p i j t = s) := hs
      clear hs
      go_wp2_with fail
      refine (spec_l1Mod q s _ q1 q2).mono ?_
      rintro e w9 ⟨rfl, rfl⟩
      go_wp2
      go_ret
      exact ⟨by rw [HS.out]; rfl, B⟩
set_option maxHeartbeats 2000000 in
set_option maxRecDepth 100000 in
theorem spec_l5Own (q : Int) (v u : Value) (n : Nat) (xs ys : List MMirror) (p k : Nat) (w : World) (hv : RdMirrorS w v xs) (hu : RdMirrorS w u ys) (hx : xs.length = n) (hy : ys.length = n) (hq : q = 2 ∨ q = 256) (hn : 1 ≤ n ∧ n ≤ 6) (sx : ∀ t, t < n → Sq ((vsOf xs).getD t [])) (sy : ∀ t, t < n → Sq ((vsOf ys).getD t [])) (bx : BdT q (vsOf xs)) (by' : BdT q (vsOf ys)) (hp : p < 4) (hk : k < 4) :
    Calls Tryz.prog 107 #[.int .i64 q, v, u, .int .i64 p, .int .i64 k] w fun e w' => e = .returned (.int .i64 (sqN (vsOf xs) (vsOf ys) p k n % q)) ∧ Below w.heap.size w w' := by
  obtain ⟨ga, oa, ca, rfl, la⟩ := hv.shape hx hn.1
  obtain ⟨gb, ob, cb, rfl, lb⟩ := hu.shape hy hn.1
  have HV : Hid (∀ W, Below w.heap.size w W → RdMirrorS W (.slice (some ⟨ga, oa, none⟩) n ca) xs) := fun W B => hv.below B
  have HU : Hid (∀ W, Below w.heap.size w W → RdMirrorS W (.slice (some ⟨gb, ob, none⟩) n cb) ys) := fun W B => hu.below B
  have HL : Hid (xs.length = n ∧ ys.length = n) := ⟨hx, hy⟩
  have HP : Hid (p < 4 ∧ k < 4) := ⟨hp, hk⟩
  have HSX : Hid (∀ t, t < n → Sq ((vsOf xs).getD t [])) := sx
  have HSY : Hid (∀ t, t < n → Sq ((vsOf ys).getD t [])) := sy
  have HBX : Hid (BdT q (vsOf xs)) := bx
  have HBY : Hid (BdT q (vsOf ys)) := by'
  have HQ : Hid (q = 2 ∨ q = 256) := hq
  have q1 : 1 ≤ q := by omega
  have q2 : q ≤ 256 := by omega
  have hp1 : (p : Int) < 4 := by omega
  have hk1 : (k : Int) < 4 := by omega
  have hp0 : (0 : Int) ≤ (p : Int) := by omega
  have hk0 : (0 : Int) ≤ (k : Int) := by omega
  clear sx sy bx by' hx hy hp hk hq hv hu
  go_enter Tryz.func107, Tryz.ntmps107
  go_wp2
  go_loopw [11, 12] (fun s z wr => ∃ t : Nat, t ≤ n ∧ z = .int .i64 t ∧ s = .int .i64 (sqN (vsOf xs) (vsOf ys) p k t) ∧ Below w.heap.size w wr) (fun _ z _ => n - (intOf z).toNat)
  case atStart => exact ⟨0, Nat.zero_le _, rfl, rfl, Below.refl _ _⟩
  case round =>
    obtain ⟨t, ht, rfl, rfl, B⟩ := hrel
    have hcb := sqN_bd HQ.out HBX.out HBY.out p k t
    by_cases hlt : t < n
    · obtain ⟨gv, ov, cv, gr, orr, cr, x1, x2, x3⟩ := (HV.out wr B).chain t p (by rw [HL.out.1]; exact hlt) (HSX.out t hlt) HP.out.1
      obtain ⟨gv', ov', cv', gr', orr', cr', y1, y2, y3⟩ := (HU.out wr B).chain t p (by rw [HL.out.2]; exact hlt) (HSY.out t hlt) HP.out.1
      have xk := x3 k HP.out.2
      have yk := y3 k HP.out.2
      have hb := (cross_small (pt_small HQ.out HBX.out t p k) (pt_small HQ.out HBY.out t p k) (pt_small HQ.out HBX.out t p k) (pt_small HQ.out HBY.out t p k)).1
      have HST : Hid (sqN (vsOf xs) (vsOf ys) p k (t + 1) = sqN (vsOf xs) (vsOf ys) p k t + pt ((vsOf xs).getD t []) p k * pt ((vsOf ys).getD t []) p k) := rfl
      have hlt' : (t : Int) < (n : Int) := by omega
      have ht0 : (0 : Int) ≤ (t : Int) := by omega
      clear x3 y3
      generalize pt ((vsOf xs).getD t []) p k = a at *
      generalize pt ((vsOf ys).getD t []) p k = c at *
      generalize sqN (vsOf xs) (vsOf ys) p k t = s at *
      have HAB : Hid (0 ≤ a * c ∧ a * c ≤ 65025) := hb
      have HSB : Hid (0 ≤ s ∧ s ≤ 65025 * (t : Int)) := hcb
      have w1 : IntKind.i64.wrap (a * c) = a * c := by rw [IntKind.wrap_i64]; have := HAB.out; omega
      have w3 : IntKind.i64.wrap (s + a * c) = s + a * c := by rw [IntKind.wrap_i64]; have := HAB.out; have := HSB.out; omega
      clear hb hcb
      go_wp2_with fail
      go_quiet (fail)
      go_wp2
      go_roundw
      case rel => exact ⟨t + 1, by omega, by go_num, by rw [HST.out], below_drewN B _⟩
      case measure => simp [intOf]; omega
    · obtain rfl : t = n := by omega
      generalize hs : sqN (vsOf xs) (vsOf ys) p k t = s at *
      have HS : Hid (sqN (vsOf xs) (vsOf ys) p k t = s) := hs
      clear hs
      go_wp2_with fail
      refine (spec_l1Mod q s _ q1 q2).mono ?_
      rintro e w9 ⟨rfl, rfl⟩
      go_wp2
      go_ret
      exact ⟨by rw [HS.out]; rfl, B⟩
end Go.Proofs.YtepobckhfodngaoGreat
