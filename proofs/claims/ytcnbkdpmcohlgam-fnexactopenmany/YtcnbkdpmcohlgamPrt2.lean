/-
  Contracts of chapter 6 of the program: parts that are told: PartFrom.
-/
import Derived.Test.YtcnbkdpmcohlgamPrt
import Derived.Test.YtcnbkdpmcohlgamMirI
import Derived.Test.YtcnbkdpmcohlgamBut
namespace Go.Proofs.Ytcnbkdpmcohlgam
open Go.ChangeShapes Go.WideShapes Go.ChangeAt Go.RowKit
set_option linter.unusedVariables false
/-- who may lie, and by how much -/
def isLieB (who by' : Int) : Bool := isBut who && decide (0 ≤ by' ∧ by' ≤ 255)
theorem isLieB_ok {who by' : Int} (h : isLieB who by' = true) : (-1 ≤ who ∧ who ≤ 3) ∧ (0 ≤ by' ∧ by' ≤ 255) := by
  unfold isLieB isBut at h
  rw [Bool.and_eq_true] at h
  have h1 := of_decide_eq_true h.1
  have h2 := of_decide_eq_true h.2
  omega
/-- the code and the value of PartFrom -/
def partR (q : Int) (xss : List (List Int)) (part who by' : Int) : Int × Int := if mirC q xss = 0 then (if (0 ≤ part ∧ part ≤ 3) ∧ isLieB who by' = true then partM q xss part.toNat who by' else (3, 0)) else (mirC q xss, 0)
theorem partR_fault {q : Int} {xss : List (List Int)} {part who by' : Int} (h : mirC q xss ≠ 0) : partR q xss part who by' = (mirC q xss, 0) := by unfold partR; rw [if_neg h]
theorem partR_out {q : Int} {xss : List (List Int)} {part who by' : Int} (h : mirC q xss = 0) (k : ¬ ((0 ≤ part ∧ part ≤ 3) ∧ isLieB who by' = true)) : partR q xss part who by' = (3, 0) := by unfold partR; rw [if_pos h, if_neg k]
theorem partR_in {q : Int} {xss : List (List Int)} {part who by' : Int} (h : mirC q xss = 0) (k : (0 ≤ part ∧ part ≤ 3) ∧ isLieB who by' = true) : partR q xss part who by' = partM q xss part.toNat who by' := by unfold partR; rw [if_pos h, if_pos k]
theorem told4_three' (part : Nat) (f : Nat → Int) (hp : part < 4) : (told4 part f 4).length = 3 := by
  refine four_cases (P := fun part => (told4 part f 4).length = 3) part hp ?_ ?_ ?_ ?_ <;> rfl
theorem major_four {xs : List Int} (h3 : xs.length = 3) (h : (major xs).1 ≠ 0) : major xs = (4, 0) := by
  obtain ⟨a, b, c, rfl⟩ := three_of xs h3
  revert h
  simp only [major]
  split
  · intro h; exact absurd rfl h
  · split
    · intro h; exact absurd rfl h
    · intro _; rfl
theorem impl_isLie (who by' : Int) (w : World) : Calls Try.prog 40 #[.int .i64 who, .int .i64 by'] w fun e w' => e = .returned (.bool (isLieB who by')) ∧ w = w' := by
  have K := fun V => impl_isPartyOrNobody who V
  unfold isLieB
  by_cases h1 : isBut who = true
  · rw [h1] at K ⊢
    clear h1
    by_cases h2 : 0 ≤ by' ∧ by' ≤ 255
    · rw [show (true && decide (0 ≤ by' ∧ by' ≤ 255)) = true by simp [h2]]
      go_enter Try.func40, Try.ntmps40
      go_wp2_with fail
      refine (K _).mono ?_
      rintro e w' ⟨rfl, rfl⟩
      go_wp2_with fail
      refine (impl_isElement_yes _ _ _ h2.1 (by omega)).mono ?_
      rintro e w' ⟨rfl, rfl⟩
      go_wp2
      go_ret
      exact ⟨rfl, rfl⟩
    · rw [show (true && decide (0 ≤ by' ∧ by' ≤ 255)) = false by simp; omega]
      go_enter Try.func40, Try.ntmps40
      go_wp2_with fail
      refine (K _).mono ?_
      rintro e w' ⟨rfl, rfl⟩
      go_wp2_with fail
      refine (impl_isElement_no _ _ _ (by omega)).mono ?_
      rintro e w' ⟨rfl, rfl⟩
      go_wp2
      go_ret
      exact ⟨rfl, rfl⟩
  · simp only [Bool.not_eq_true] at h1
    rw [h1] at K ⊢
    rw [Bool.false_and]
    clear h1
    go_enter Try.func40, Try.ntmps40
    go_wp2_with fail
    refine (K _).mono ?_
    rintro e w' ⟨rfl, rfl⟩
    go_wp2
    go_ret
    exact ⟨rfl, rfl⟩
set_option maxHeartbeats 1000000 in
set_option maxRecDepth 100000 in
theorem impl_partFrom (xss : List (List Int)) (q : Int) (part : Nat) (who by' : Int) (w : World) (hs : Sq xss) (hp : part < 4) (hq : q = 2 ∨ q = 256) (hf : ∀ k, k < 4 → 0 ≤ partF xss part k ∧ partF xss part k < q) (hwho : -1 ≤ who ∧ who ≤ 3) (hby : 0 ≤ by' ∧ by' ≤ 255) :
    Calls Try.prog 54 #[ag2 xss, .int .i64 q, .int .i64 part, .int .i64 who, .int .i64 by'] w fun e w' => Agr (partM q xss part who by') e ∧ Below w.heap.size w w' := by
  have KT := fun V => impl_views_told xss part V hs hp (fun k hk => by have := hf k hk; omega)
  have KL := fun b V h => impl_lie b part 4 (partF xss part) q who by' V hp (by omega) hq hf hwho hby h
  have KA := fun b V h => impl_agreed b part 5 (lieF (partF xss part) q who by') V hp h
  have HM : Hid (partM q xss part who by' = major (told4 part (lieF (partF xss part) q who by') 4)) := rfl
  obtain ⟨a0, a1, a2, a3, b0, b1, b2, b3, c0, c1, c2, c3, d0, d1, d2, d3, rfl⟩ := hs.lit
  rw [show ag2 [[a0, a1, a2, a3], [b0, b1, b2, b3], [c0, c1, c2, c3], [d0, d1, d2, d3]] = .agg #[.int .i64 a0, .int .i64 a1, .int .i64 a2, .int .i64 a3, .int .i64 b0, .int .i64 b1, .int .i64 b2, .int .i64 b3, .int .i64 c0, .int .i64 c1, .int .i64 c2, .int .i64 c3, .int .i64 d0, .int .i64 d1, .int .i64 d2, .int .i64 d3] from rfl] at KT ⊢
  have X0 := Blk.new w 72 #[.int .i64 a0, .int .i64 a1, .int .i64 a2, .int .i64 a3, .int .i64 b0, .int .i64 b1, .int .i64 b2, .int .i64 b3, .int .i64 c0, .int .i64 c1, .int .i64 c2, .int .i64 c3, .int .i64 d0, .int .i64 d1, .int .i64 d2, .int .i64 d3]
  have B0 : Below w.heap.size w (w.alloc (.cells #[.int .i64 a0, .int .i64 a1, .int .i64 a2, .int .i64 a3, .int .i64 b0, .int .i64 b1, .int .i64 b2, .int .i64 b3, .int .i64 c0, .int .i64 c1, .int .i64 c2, .int .i64 c3, .int .i64 d0, .int .i64 d1, .int .i64 d2, .int .i64 d3] 72)) := (by repeat (first | exact Below.refl _ _ | refine Below.drew ?_ | refine below_drewN ?_ _ | refine Below.setCell ?_ (by first | omega | (simp; done) | (simp; omega)) _ | refine Below.alloc ?_ (by first | omega | (simp; done) | (simp; omega)) _))
  clear hf hwho hby hs
  generalize major (told4 part (lieF (partF [[a0, a1, a2, a3], [b0, b1, b2, b3], [c0, c1, c2, c3], [d0, d1, d2, d3]] part) q who by') 4) = M at *
  generalize lieF (partF [[a0, a1, a2, a3], [b0, b1, b2, b3], [c0, c1, c2, c3], [d0, d1, d2, d3]] part) q who by' = g at *
  generalize partF [[a0, a1, a2, a3], [b0, b1, b2, b3], [c0, c1, c2, c3], [d0, d1, d2, d3]] part = f at *
  generalize partM q [[a0, a1, a2, a3], [b0, b1, b2, b3], [c0, c1, c2, c3], [d0, d1, d2, d3]] part who by' = M' at *
  go_enter Try.func54, Try.ntmps54
  go_wp2_with fail
  refine (KT _).mono ?_
  rintro e w1 ⟨b, rfl, hT, hbb, hb1⟩
  have B1 := B0.trans (hb1.mono B0.size)
  clear X0 B0 hb1
  go_wp2_with fail
  refine (KL b _ hT).mono ?_
  rintro e w2 ⟨rfl, hT2, hO2⟩
  have B2 : Below w.heap.size w w2 := B1.trans (hO2.toBelow B1.size (by simp at hbb; simp; omega))
  clear hT hO2 B1
  go_wp2_with fail
  refine (KA b _ hT2).mono ?_
  rintro e w3 ⟨hA, hb3⟩
  have B3 := B2.trans (hb3.mono B2.size)
  rcases hA with ⟨h0, rfl⟩ | ⟨h0, pv, rfl⟩
  · go_wp2
    go_ret
    exact ⟨by rw [HM.out]; exact .inl ⟨h0, rfl⟩, B3⟩
  · exact ⟨rfl, by rw [HM.out]; exact .inr ⟨h0, pv, rfl⟩, B3⟩
set_option maxHeartbeats 1000000 in
set_option maxRecDepth 100000 in
theorem impl_PartFrom_1 (ab mb pb wb yb : Nat) (v : Value) (xss : List (List Int)) (q : Int) (part : Nat) (who by' : Int) (w : World) (hs : Sq xss) (hp : part < 4) (hq : q = 2 ∨ q = 256) (hf : ∀ k, k < 4 → 0 ≤ partF xss part k ∧ partF xss part k < q) (hwho : -1 ≤ who ∧ who ≤ 3) (hby : 0 ≤ by' ∧ by' ≤ 255)
    (X : Blk w ab 72 (cells2 xss)) (Y : Blk w mb 30 #[.int .i64 q, v]) (Z0 : Blk w pb 2 #[.int .i64 part]) (Z1 : Blk w wb 2 #[.int .i64 who]) (Z2 : Blk w yb 2 #[.int .i64 by']) :
    Calls Try.prog 53 #[.pointer (some ⟨ab, 0, none⟩), .pointer (some ⟨mb, 0, none⟩), .pointer (some ⟨pb, 0, none⟩), .pointer (some ⟨wb, 0, none⟩), .pointer (some ⟨yb, 0, none⟩)] w fun e w' => AgrR (partM q xss part who by') e ∧ Below w.heap.size w w' := by
  have K := fun V => impl_partFrom xss q part who by' V hs hp hq hf hwho hby
  obtain ⟨a0, a1, a2, a3, b0, b1, b2, b3, c0, c1, c2, c3, d0, d1, d2, d3, rfl⟩ := hs.lit
  rw [show ag2 [[a0, a1, a2, a3], [b0, b1, b2, b3], [c0, c1, c2, c3], [d0, d1, d2, d3]] = .agg #[.int .i64 a0, .int .i64 a1, .int .i64 a2, .int .i64 a3, .int .i64 b0, .int .i64 b1, .int .i64 b2, .int .i64 b3, .int .i64 c0, .int .i64 c1, .int .i64 c2, .int .i64 c3, .int .i64 d0, .int .i64 d1, .int .i64 d2, .int .i64 d3] from rfl] at K
  rw [show cells2 [[a0, a1, a2, a3], [b0, b1, b2, b3], [c0, c1, c2, c3], [d0, d1, d2, d3]] = #[.int .i64 a0, .int .i64 a1, .int .i64 a2, .int .i64 a3, .int .i64 b0, .int .i64 b1, .int .i64 b2, .int .i64 b3, .int .i64 c0, .int .i64 c1, .int .i64 c2, .int .i64 c3, .int .i64 d0, .int .i64 d1, .int .i64 d2, .int .i64 d3] from rfl] at X
  generalize partM q [[a0, a1, a2, a3], [b0, b1, b2, b3], [c0, c1, c2, c3], [d0, d1, d2, d3]] part who by' = M at *
  clear hs hf hwho hby
  have xl := X.lt
  have yl := Y.lt
  have z0l := Z0.lt
  have z1l := Z1.lt
  have z2l := Z2.lt
  have n1 : ab ≠ w.heap.size := by omega
  have n2 : mb ≠ w.heap.size := by omega
  have n3 : pb ≠ w.heap.size := by omega
  have n4 : wb ≠ w.heap.size := by omega
  have n5 : yb ≠ w.heap.size := by omega
  have R := Blk.new w 38 #[.int .i64 0, .int .i64 0]
  have B1 : Below w.heap.size w (w.alloc (.cells #[.int .i64 0, .int .i64 0] 38)) := (by repeat (first | exact Below.refl _ _ | refine Below.drew ?_ | refine below_drewN ?_ _ | refine Below.setCell ?_ (by first | omega | (simp; done) | (simp; omega)) _ | refine Below.alloc ?_ (by first | omega | (simp; done) | (simp; omega)) _))
  have x1 := (X.alloc (.cells #[.int .i64 0, .int .i64 0] 38)).at.1
  have y1 := (Y.alloc (.cells #[.int .i64 0, .int .i64 0] 38)).at.1
  have z0 := (Z0.alloc (.cells #[.int .i64 0, .int .i64 0] 38)).at.1
  have z1 := (Z1.alloc (.cells #[.int .i64 0, .int .i64 0] 38)).at.1
  have z2 := (Z2.alloc (.cells #[.int .i64 0, .int .i64 0] 38)).at.1
  clear X Y Z0 Z1 Z2
  go_enter Try.func53, Try.ntmps53
  go_wp2_with fail
  clear x1 y1 z0 z1 z2
  refine (K _).mono ?_
  rintro e w2 ⟨hA, hb2⟩
  have Y := R.keep hb2
  have y1 := Y.at.1
  have y2 := Y.at.2
  have yl := Y.lt
  have B2 := B1.trans (hb2.mono B1.size)
  rcases hA with ⟨h0, rfl⟩ | ⟨h0, pv, rfl⟩
  · go_wp2
    exact bodyPost_ret (v := .agg #[.int .i64 0, .int .i64 M.2]) (by simp [results, Try.results53, go_sem, y1]) rfl ⟨.inl ⟨h0, rfl⟩, (by have zz0 := (B2).size; (try simp at zz0); repeat (first | exact Below.refl _ _ | refine Below.drew ?_ | refine below_drewN ?_ _ | refine Below.setCell ?_ (by first | omega | (simp; done) | (simp; omega)) _ | refine Below.alloc ?_ (by first | omega | (simp; done) | (simp; omega)) _ | refine bcall ?_ B2 (by first | omega | (simp; done) | (simp; omega))))⟩
  · exact ⟨rfl, .inr ⟨h0, pv, rfl⟩, B2⟩
set_option maxHeartbeats 1000000 in
theorem impl_orNone_Part (n0 n1 : Int) (ab mb pb wb yb : Nat) (v : Value) (xss : List (List Int)) (q : Int) (part : Nat) (who by' : Int) (w : World) (hs : Sq xss) (hp : part < 4) (hq : q = 2 ∨ q = 256) (hf : ∀ k, k < 4 → 0 ≤ partF xss part k ∧ partF xss part k < q) (hwho : -1 ≤ who ∧ who ≤ 3) (hby : 0 ≤ by' ∧ by' ≤ 255)
    (X : Blk w ab 72 (cells2 xss)) (Y : Blk w mb 30 #[.int .i64 q, v]) (Z0 : Blk w pb 2 #[.int .i64 part]) (Z1 : Blk w wb 2 #[.int .i64 who]) (Z2 : Blk w yb 2 #[.int .i64 by']) :
    Calls Try.prog 52 #[.agg #[.int .i64 n0, .int .i64 n1], .func (.func 53) #[] #[.pointer (some ⟨ab, 0, none⟩), .pointer (some ⟨mb, 0, none⟩), .pointer (some ⟨pb, 0, none⟩), .pointer (some ⟨wb, 0, none⟩), .pointer (some ⟨yb, 0, none⟩)]] w fun e w' => e = .returned (if (partM q xss part who by').1 = 0 then .agg #[.int .i64 0, .int .i64 (partM q xss part who by').2] else .agg #[.int .i64 n0, .int .i64 n1]) ∧ Below w.heap.size w w' := by
  have hmf : ∀ (fn : Fn) (first cap : Array Value) (w : World), (Instr.makeFunc fn first cap).run Try.prog w = .ok (.func fn first cap) w := fun _ _ _ _ => rfl
  have K := fun V k1 k2 k3 k4 k5 => impl_PartFrom_1 ab mb pb wb yb v xss q part who by' V hs hp hq hf hwho hby k1 k2 k3 k4 k5
  replace X := (X.alloc (.cells #[.int .i64 n0, .int .i64 n1] 38)).alloc (.cells #[.int .i64 0, .int .i64 0] 38)
  replace Y := (Y.alloc (.cells #[.int .i64 n0, .int .i64 n1] 38)).alloc (.cells #[.int .i64 0, .int .i64 0] 38)
  replace Z0 := (Z0.alloc (.cells #[.int .i64 n0, .int .i64 n1] 38)).alloc (.cells #[.int .i64 0, .int .i64 0] 38)
  replace Z1 := (Z1.alloc (.cells #[.int .i64 n0, .int .i64 n1] 38)).alloc (.cells #[.int .i64 0, .int .i64 0] 38)
  replace Z2 := (Z2.alloc (.cells #[.int .i64 n0, .int .i64 n1] 38)).alloc (.cells #[.int .i64 0, .int .i64 0] 38)
  have X1 := (Blk.new w 38 #[.int .i64 n0, .int .i64 n1]).alloc (.cells #[.int .i64 0, .int .i64 0] 38)
  have Y1 : Blk ((w.alloc (.cells #[.int .i64 n0, .int .i64 n1] 38)).alloc (.cells #[.int .i64 0, .int .i64 0] 38)) (w.heap.size + 1) 38 #[.int .i64 0, .int .i64 0] := by simpa using Blk.new (w.alloc (.cells #[.int .i64 n0, .int .i64 n1] 38)) 38 #[.int .i64 0, .int .i64 0]
  clear hs hf hwho hby
  generalize partM q xss part who by' = M at *
  go_enter_defers Try.func52, Try.ntmps52
  go_wp2_with fail
  refine (K _ X Y Z0 Z1 Z2).mono ?_
  rintro e w2 ⟨hA, hb2⟩
  have X2 := X1.keep hb2
  have Y2 := Y1.keep hb2
  have y1 := Y2.at.1
  have y2 := Y2.at.2
  have yl := Y2.lt
  have B2 : Below w.heap.size w w2 := (by have zz0 := (hb2).size; (try simp at zz0); repeat (first | exact Below.refl _ _ | refine Below.drew ?_ | refine below_drewN ?_ _ | refine Below.setCell ?_ (by first | omega | (simp; done) | (simp; omega)) _ | refine Below.alloc ?_ (by first | omega | (simp; done) | (simp; omega)) _ | refine bcall ?_ hb2 (by first | omega | (simp; done) | (simp; omega))))
  rcases hA with ⟨h0, rfl⟩ | ⟨h0, pv, rfl⟩
  · go_wp2
    refine leaves_cons (f := 81) (args := #[.pointer (some ⟨w.heap.size, 0, none⟩), .pointer (some ⟨w.heap.size + 1, 0, none⟩)]) (by simp) (by simp [go_sem]) ?_
    refine (catchI_idle w.heap.size (w.heap.size + 1) _).mono ?_
    rintro e u' w'' ⟨rfl, rfl, rfl⟩
    refine ⟨.agg #[.int .i64 0, .int .i64 M.2], by simp [results, Try.results52, go_sem, y1], by first | rfl | rw [if_pos h0], (by have zz0 := (B2).size; (try simp at zz0); repeat (first | exact Below.refl _ _ | refine Below.drew ?_ | refine below_drewN ?_ _ | refine Below.setCell ?_ (by first | omega | (simp; done) | (simp; omega)) _ | refine Below.alloc ?_ (by first | omega | (simp; done) | (simp; omega)) _ | refine bcall ?_ B2 (by first | omega | (simp; done) | (simp; omega))))⟩
  · refine leaves_cons (f := 81) (args := #[.pointer (some ⟨w.heap.size, 0, none⟩), .pointer (some ⟨w.heap.size + 1, 0, none⟩)]) (by simp) (by simp [go_sem]) ?_
    refine (catchI_panicking w.heap.size (w.heap.size + 1) n0 n1 _ _ _ pv [] _ X2 Y2 (by omega)).mono ?_
    rintro e u' w'' ⟨rfl, rfl, rfl⟩
    refine ⟨.agg #[.int .i64 n0, .int .i64 n1], by simp [results, Try.results52, go_sem, y1], by first | rfl | rw [if_neg h0], (by have zz0 := (B2).size; (try simp at zz0); repeat (first | exact Below.refl _ _ | refine Below.drew ?_ | refine below_drewN ?_ _ | refine Below.setCell ?_ (by first | omega | (simp; done) | (simp; omega)) _ | refine Below.alloc ?_ (by first | omega | (simp; done) | (simp; omega)) _ | refine bcall ?_ B2 (by first | omega | (simp; done) | (simp; omega))))⟩
end Go.Proofs.Ytcnbkdpmcohlgam
