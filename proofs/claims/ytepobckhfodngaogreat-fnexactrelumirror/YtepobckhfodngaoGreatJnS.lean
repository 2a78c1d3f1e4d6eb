/-
  Contracts of chapter 4: what is told in a joint message, and what the three say of it: in the program and in its model.
-/
import Derived.Test.YtepobckhfodngaoGreatJnN
import Derived.Test.YtepobckhfodngaoGreatElem
import Derived.Test.YtepobckhfodngaoGreatWhole
namespace Go.Proofs.YtepobckhfodngaoGreat
open Go.ChangeShapes Go.WideShapes Go.ChangeAt Go.RowKit
set_option linter.unusedVariables false

/-- what a party tells in a message of that number -/
def tellV (c : MCheat) (q at' who v : Int) : Int := if c.xWho = who ∧ c.xAt = at' then (v + c.xBy) % q else v
theorem tellV_yes {c : MCheat} {q at' who v : Int} (h : c.xWho = who) (k : c.xAt = at') : tellV c q at' who v = (v + c.xBy) % q := if_pos ⟨h, k⟩
theorem tellV_no1 {c : MCheat} {q at' who v : Int} (h : ¬ c.xWho = who) : tellV c q at' who v = v := if_neg (fun k => h k.1)
theorem tellV_no2 {c : MCheat} {q at' who v : Int} (h : ¬ c.xAt = at') : tellV c q at' who v = v := if_neg (fun k => h k.2)
theorem tellV_in {c : MCheat} {q at' who v : Int} (hq : q = 2 ∨ q = 256) (h : 0 ≤ v ∧ v < q) : 0 ≤ tellV c q at' who v ∧ tellV c q at' who v < q := by
  unfold tellV
  split
  · exact ⟨Int.emod_nonneg _ (by omega), Int.emod_lt_of_pos _ (by omega)⟩
  · exact h
/-- what a party says that it told -/
def standV (c : MCheat) (who right told : Int) : Int := if c.xWho = who ∧ c.xCry = true then told else right
set_option maxHeartbeats 2000000 in
theorem spec_l4Tell (b : Nat) (x : MNet) (p0 p1 p2 : Option Addr) (l0 l1 l2 c0 c1 c2 : Nat) (s q who v : Int) (w : World) (hb : Blk w b 41 #[.slice p0 l0 c0, .slice p1 l1 c1, .int .i64 s, .slice p2 l2 c2, .int .i64 x.xCheat.xWho, .int .i64 x.xCheat.xAt, .int .i64 x.xCheat.xBy, .bool x.xCheat.xCry, .bool x.xQuarrel.xSome, .int .i64 x.xQuarrel.xFrom, .int .i64 x.xQuarrel.xCheck, .int .i64 x.xQuarrel.xTo, .int .i64 x.xQuarrel.xTold, .int .i64 x.xQuarrel.xHeard, .int .i64 x.xQuarrel.xOther, .int .i64 x.xQuarrel.xVowed]) (hs : 0 ≤ s ∧ s ≤ 1000000) (hq : q = 2 ∨ q = 256) (hv : 0 ≤ v ∧ v ≤ 255) (hy : 0 ≤ x.xCheat.xBy ∧ x.xCheat.xBy ≤ 255) :
    Calls Tryz.prog 127 #[.pointer (some ⟨b, 0, none⟩), .int .i64 q, .int .i64 who, .int .i64 v] w fun e w' => e = .returned (.int .i64 (tellV x.xCheat q s who v)) ∧ Blk w' b 41 #[.slice p0 l0 c0, .slice p1 l1 c1, .int .i64 (s + 1), .slice p2 l2 c2, .int .i64 x.xCheat.xWho, .int .i64 x.xCheat.xAt, .int .i64 x.xCheat.xBy, .bool x.xCheat.xCry, .bool x.xQuarrel.xSome, .int .i64 x.xQuarrel.xFrom, .int .i64 x.xQuarrel.xCheck, .int .i64 x.xQuarrel.xTo, .int .i64 x.xQuarrel.xTold, .int .i64 x.xQuarrel.xHeard, .int .i64 x.xQuarrel.xOther, .int .i64 x.xQuarrel.xVowed] ∧ Off [b] w w' := by
  have xa := hb.at.1
  have xb := hb.at.2
  have xl := hb.lt
  have HB : Hid (Blk (w.setCell ⟨b, 2, none⟩ (.int .i64 (s + 1))) b 41 #[.slice p0 l0 c0, .slice p1 l1 c1, .int .i64 (s + 1), .slice p2 l2 c2, .int .i64 x.xCheat.xWho, .int .i64 x.xCheat.xAt, .int .i64 x.xCheat.xBy, .bool x.xCheat.xCry, .bool x.xQuarrel.xSome, .int .i64 x.xQuarrel.xFrom, .int .i64 x.xQuarrel.xCheck, .int .i64 x.xQuarrel.xTo, .int .i64 x.xQuarrel.xTold, .int .i64 x.xQuarrel.xHeard, .int .i64 x.xQuarrel.xOther, .int .i64 x.xQuarrel.xVowed]) := Blk.of_eq (hb.set 2 _) (by simp)
  have HO : Hid (Off [b] w (w.setCell ⟨b, 2, none⟩ (.int .i64 (s + 1)))) := (Off.refl _ _).setCell _ _ (by simp)
  clear hb
  by_cases h1 : x.xCheat.xWho = who
  · have e1 : (x.xCheat.xWho == who) = true := by simpa using h1
    by_cases h2 : x.xCheat.xAt = s
    · have e2 : (x.xCheat.xAt == s) = true := by simpa using h2
      rw [tellV_yes h1 h2]
      clear h1 h2
      go_enter Tryz.func127, Tryz.ntmps127
      go_wp2_with fail
      refine (spec_l1Mod _ _ _ (by omega) (by omega)).mono ?_
      rintro e w' ⟨rfl, rfl⟩
      go_wp2
      go_ret
      exact ⟨rfl, HB.out, HO.out⟩
    · have e2 : (x.xCheat.xAt == s) = false := by simpa using h2
      rw [tellV_no2 h2]
      clear h1 h2
      go_enter Tryz.func127, Tryz.ntmps127
      go_wp2
      go_ret
      exact ⟨rfl, HB.out, HO.out⟩
  · have e1 : (x.xCheat.xWho == who) = false := by simpa using h1
    rw [tellV_no1 h1]
    clear h1
    go_enter Tryz.func127, Tryz.ntmps127
    go_wp2
    go_ret
    exact ⟨rfl, HB.out, HO.out⟩
set_option maxHeartbeats 1000000 in
theorem spec_l4Stands (b : Nat) (c : MCheat) (who right told : Int) (w : World) (k0 : w.cell? ⟨b, 4, none⟩ = some (.int .i64 c.xWho)) (k3 : w.cell? ⟨b, 7, none⟩ = some (.bool c.xCry)) :
    Calls Tryz.prog 128 #[.pointer (some ⟨b, 0, none⟩), .int .i64 who, .int .i64 right, .int .i64 told] w fun e w' => e = .returned (.int .i64 (standV c who right told)) ∧ w = w' := by
  by_cases h1 : c.xWho = who
  · have e1 : (c.xWho == who) = true := by simpa using h1
    cases h2 : c.xCry
    · rw [h2] at k3
      rw [show standV c who right told = right from if_neg (by rw [h2]; simp)]
      clear h1 h2
      go_enter Tryz.func128, Tryz.ntmps128
      go_wp2
      go_ret
      exact ⟨rfl, rfl⟩
    · rw [h2] at k3
      rw [show standV c who right told = told from if_pos ⟨h1, h2⟩]
      clear h1 h2
      go_enter Tryz.func128, Tryz.ntmps128
      go_wp2
      go_ret
      exact ⟨rfl, rfl⟩
  · have e1 : (c.xWho == who) = false := by simpa using h1
    rw [show standV c who right told = right from if_neg (fun h => h1 h.1)]
    clear h1
    go_enter Tryz.func128, Tryz.ntmps128
    go_wp2
    go_ret
    exact ⟨rfl, rfl⟩
theorem impl_isBy (c : MCheat) (p : Int) (w : World) : Calls Tryz.prog 165 #[.agg #[.int .i64 c.xWho, .int .i64 c.xAt, .int .i64 c.xBy, .bool c.xCry], .int .i64 p] w fun e w' => e = .returned (.bool (p == c.xWho)) ∧ Below w.heap.size w w' := by
  go_enter Tryz.func165, Tryz.ntmps165
  go_wp2
  go_ret
  exact ⟨rfl, (by repeat (first | exact Below.refl _ _ | refine Below.drew ?_ | refine below_drewN ?_ _ | refine Below.setCell ?_ (by first | omega | (simp; done) | (simp; omega)) _ | refine Below.alloc ?_ (by first | omega | (simp; done) | (simp; omega)) _))⟩
theorem fieldIR_1 (x y : Value) (w : World) : (Instr.field 178 (.agg #[x, y]) 1).run Tryz.prog w = .ok y w := by kernel_rfl
theorem impl_turned (c : MCheat) (q v : Int) (w : World) (hq : q = 2 ∨ q = 256) (hv : 0 ≤ v ∧ v < q) (hy : 0 ≤ c.xBy ∧ c.xBy ≤ 255) : Calls Tryz.prog 166 #[.agg #[.int .i64 c.xWho, .int .i64 c.xAt, .int .i64 c.xBy, .bool c.xCry], .int .i64 q, .int .i64 v] w fun e w' => e = .returned (.int .i64 ((v + c.xBy) % q)) ∧ Below w.heap.size w w' := by
  have m1 : 0 ≤ c.xBy % q := Int.emod_nonneg _ (by omega)
  have m2 : c.xBy % q < q := Int.emod_lt_of_pos _ (by omega)
  have K := fun V => impl_AddRing_yes q v (c.xBy % q) V ⟨hq, hv.1, hv.2, m1, m2⟩
  rw [show (v + c.xBy % q) % q = (v + c.xBy) % q by simp] at K
  have fi := fieldIR_1
  have hne : q ≠ 0 := by omega
  have h0 := hy.1
  have ht : c.xBy.tmod q = c.xBy % q := Int.tmod_eq_emod_of_nonneg h0
  generalize (v + c.xBy) % q = r at *
  rcases hq with rfl | rfl
  · go_enter Tryz.func166, Tryz.ntmps166
    go_wp2_with fail
    refine (K _).mono ?_
    rintro e w1 ⟨rfl, hb1⟩
    go_wp2
    go_ret
    exact ⟨rfl, (by have zz0 := (hb1).size; (try simp at zz0); repeat (first | exact Below.refl _ _ | refine Below.drew ?_ | refine below_drewN ?_ _ | refine Below.setCell ?_ (by first | omega | (simp; done) | (simp; omega)) _ | refine Below.alloc ?_ (by first | omega | (simp; done) | (simp; omega)) _ | refine bcall ?_ hb1 (by first | omega | (simp; done) | (simp; omega))))⟩
  · go_enter Tryz.func166, Tryz.ntmps166
    go_wp2_with fail
    refine (K _).mono ?_
    rintro e w1 ⟨rfl, hb1⟩
    go_wp2
    go_ret
    exact ⟨rfl, (by have zz0 := (hb1).size; (try simp at zz0); repeat (first | exact Below.refl _ _ | refine Below.drew ?_ | refine below_drewN ?_ _ | refine Below.setCell ?_ (by first | omega | (simp; done) | (simp; omega)) _ | refine Below.alloc ?_ (by first | omega | (simp; done) | (simp; omega)) _ | refine bcall ?_ hb1 (by first | omega | (simp; done) | (simp; omega))))⟩
set_option maxHeartbeats 1000000 in
theorem impl_told (c : MCheat) (q n t v : Int) (w : World) (hq : q = 2 ∨ q = 256) (hv : 0 ≤ v ∧ v < q) (hy : 0 ≤ c.xBy ∧ c.xBy ≤ 255) : Calls Tryz.prog 162 #[.agg #[.int .i64 c.xWho, .int .i64 c.xAt, .int .i64 c.xBy, .bool c.xCry], .int .i64 q, .int .i64 n, .int .i64 t, .int .i64 v] w fun e w' => e = .returned (.int .i64 (tellV c q n t v)) ∧ Below w.heap.size w w' := by
  have B0 : Below w.heap.size w (w.alloc (.cells #[.int .i64 c.xWho, .int .i64 c.xAt, .int .i64 c.xBy, .bool c.xCry] 38)) := (by repeat (first | exact Below.refl _ _ | refine Below.drew ?_ | refine below_drewN ?_ _ | refine Below.setCell ?_ (by first | omega | (simp; done) | (simp; omega)) _ | refine Below.alloc ?_ (by first | omega | (simp; done) | (simp; omega)) _))
  have X0 := Blk.new w 38 #[.int .i64 c.xWho, .int .i64 c.xAt, .int .i64 c.xBy, .bool c.xCry]
  have KB := fun V => impl_isBy c t V
  by_cases h1 : c.xWho = t
  · rw [show (t == c.xWho) = true by simpa using h1.symm] at KB
    by_cases h2 : c.xAt = n
    · have e2 : (n == c.xAt) = true := by simpa using h2.symm
      rw [tellV_yes h1 h2]
      clear h1 h2
      go_enter Tryz.func162, Tryz.ntmps162
      go_wp2_with fail
      refine (KB _).mono ?_
      rintro e w1 ⟨rfl, hb1⟩
      replace X0 := X0.keep hb1
      replace B0 : Below w.heap.size w w1 := B0.trans (hb1.mono B0.size)
      have xa := X0.at.1
      go_wp2_with fail
      refine (impl_turned c q v _ hq hv hy).mono ?_
      rintro e w2 ⟨rfl, hb2⟩
      go_wp2
      go_ret
      exact ⟨rfl, B0.trans (hb2.mono B0.size)⟩
    · have e2 : (n == c.xAt) = false := by simpa using fun h => h2 h.symm
      rw [tellV_no2 h2]
      clear h1 h2
      go_enter Tryz.func162, Tryz.ntmps162
      go_wp2_with fail
      refine (KB _).mono ?_
      rintro e w1 ⟨rfl, hb1⟩
      replace X0 := X0.keep hb1
      replace B0 : Below w.heap.size w w1 := B0.trans (hb1.mono B0.size)
      have xa := X0.at.1
      go_wp2
      go_ret
      exact ⟨rfl, B0⟩
  · rw [show (t == c.xWho) = false by simpa using fun h => h1 h.symm] at KB
    rw [tellV_no1 h1]
    clear h1
    go_enter Tryz.func162, Tryz.ntmps162
    go_wp2_with fail
    refine (KB _).mono ?_
    rintro e w1 ⟨rfl, hb1⟩
    replace X0 := X0.keep hb1
    replace B0 : Below w.heap.size w w1 := B0.trans (hb1.mono B0.size)
    have xa := X0.at.1
    go_wp2
    go_ret
    exact ⟨rfl, B0⟩
/-- does the one who compares cry out? -/
def cryB (c : MCheat) (to n : Int) : Bool := c.xCry && (to == c.xWho && decide (c.xAt ≤ n))
set_option maxHeartbeats 1000000 in
theorem impl_criesOut (c : MCheat) (to n : Int) (w : World) : Calls Tryz.prog 163 #[.agg #[.int .i64 c.xWho, .int .i64 c.xAt, .int .i64 c.xBy, .bool c.xCry], .int .i64 to, .int .i64 n] w fun e w' => e = .returned (.bool (cryB c to n)) ∧ Below w.heap.size w w' := by
  have B0 : Below w.heap.size w (w.alloc (.cells #[.int .i64 c.xWho, .int .i64 c.xAt, .int .i64 c.xBy, .bool c.xCry] 38)) := (by repeat (first | exact Below.refl _ _ | refine Below.drew ?_ | refine below_drewN ?_ _ | refine Below.setCell ?_ (by first | omega | (simp; done) | (simp; omega)) _ | refine Below.alloc ?_ (by first | omega | (simp; done) | (simp; omega)) _))
  have X0 := Blk.new w 38 #[.int .i64 c.xWho, .int .i64 c.xAt, .int .i64 c.xBy, .bool c.xCry]
  have KB := fun V => impl_isBy c to V
  cases hc : c.xCry
  · have HN : Hid (cryB c to n = false) := by show _ = _; unfold cryB; rw [hc]; rfl
    rw [hc] at B0 X0
    go_enter Tryz.func163, Tryz.ntmps163
    go_wp2
    go_ret
    exact ⟨by rw [HN.out]; rfl, B0⟩
  · rw [hc] at B0 X0 KB
    by_cases h1 : c.xWho = to
    · rw [show (to == c.xWho) = true by simpa using h1.symm] at KB
      by_cases h2 : c.xAt ≤ n
      · have HN : Hid (cryB c to n = true) := by show _ = _; unfold cryB; rw [hc, show (to == c.xWho) = true by simpa using h1.symm, decide_eq_true h2]; rfl
        clear hc h1
        go_enter Tryz.func163, Tryz.ntmps163
        go_wp2_with fail
        refine (KB _).mono ?_
        rintro e w1 ⟨rfl, hb1⟩
        replace X0 := X0.keep hb1
        replace B0 : Below w.heap.size w w1 := B0.trans (hb1.mono B0.size)
        have xa := X0.at.1
        go_wp2
        go_ret
        exact ⟨by rw [HN.out]; rfl, B0⟩
      · have hd : decide (c.xAt ≤ n) = false := decide_eq_false h2
        have HN : Hid (cryB c to n = false) := by show _ = _; unfold cryB; rw [hd]; simp
        clear hc h1 h2
        go_enter Tryz.func163, Tryz.ntmps163
        go_wp2_with fail
        refine (KB _).mono ?_
        rintro e w1 ⟨rfl, hb1⟩
        replace X0 := X0.keep hb1
        replace B0 : Below w.heap.size w w1 := B0.trans (hb1.mono B0.size)
        have xa := X0.at.1
        go_wp2
        go_ret
        exact ⟨by rw [HN.out]; rfl, B0⟩
    · rw [show (to == c.xWho) = false by simpa using fun h => h1 h.symm] at KB
      have HN : Hid (cryB c to n = false) := by show _ = _; unfold cryB; rw [show (to == c.xWho) = false by simpa using fun h => h1 h.symm]; simp
      clear hc h1
      go_enter Tryz.func163, Tryz.ntmps163
      go_wp2_with fail
      refine (KB _).mono ?_
      rintro e w1 ⟨rfl, hb1⟩
      replace X0 := X0.keep hb1
      replace B0 : Below w.heap.size w w1 := B0.trans (hb1.mono B0.size)
      have xa := X0.at.1
      go_wp2
      go_ret
      exact ⟨by rw [HN.out]; rfl, B0⟩
end Go.Proofs.YtepobckhfodngaoGreat
