/-
  Rows of products, plain: what two parts make together, pair by pair, until there is a quarrel. Nothing of the program is named here.
-/
import Derived.Test.YtepobckhfodngaoGreatNin
import Derived.Test.YtepobckhfodngaoGreatDotA
import Derived.Test.YtepobckhfodngaoGreatDotM0
namespace Go.Proofs.YtepobckhfodngaoGreat
open Go.ChangeShapes Go.WideShapes Go.ChangeAt Go.RowKit
set_option linter.unusedVariables false

def kOf (i j : Nat) : Nat := (othF i j).toNat
def lOf (i j : Nat) : Nat := (othS i j).toNat
def mixK (q : Int) (xss yss : List (List (List Int))) (n : Nat) (x : MNet) (p i j : Nat) : Int := (crN xss yss p i j n % q - wordQ q x j) % q
theorem mixK_bd {q : Int} (hq : q = 2 ∨ q = 256) (xss yss : List (List (List Int))) (n : Nat) (x : MNet) (p i j : Nat) : 0 ≤ mixK q xss yss n x p i j ∧ mixK q xss yss n x p i j < q :=
  ⟨Int.emod_nonneg _ (by omega), Int.emod_lt_of_pos _ (by omega)⟩
def mixX (q : Int) (xss yss : List (List (List Int))) (n : Nat) (x : MNet) (i j : Nat) : MNet :=
  sentN (tookN x j) q (othF i j) (othS i j) j (mixK q xss yss n x (kOf i j) i j) (mixK q xss yss n x (lOf i j) i j)
def mixU (q : Int) (xss yss : List (List (List Int))) (n : Nat) (x : MNet) (i j : Nat) : Int := uT (tookN x j) q (othF i j) (mixK q xss yss n x (kOf i j) i j)
def mixF (q : Int) (xss yss : List (List (List Int))) (n : Nat) (x : MNet) (fs : List Int) (i j : Nat) : List Int :=
  putF q (putF q (putF q (putF q (putF q (putF q fs i j (wordQ q x j)) (kOf i j) j (wordQ q x j)) (lOf i j) j (wordQ q x j)) (kOf i j) i (mixK q xss yss n x (kOf i j) i j)) (lOf i j) i (mixK q xss yss n x (lOf i j) i j)) j i (mixU q xss yss n x i j)
theorem mixF_ok {q : Int} (hq : q = 2 ∨ q = 256) (xss yss : List (List (List Int))) (n : Nat) (x : MNet) {fs : List Int} (h : Ok16 q fs) (i j : Nat) : Ok16 q (mixF q xss yss n x fs i j) :=
  (((((h.put hq _ _ _).put hq _ _ _).put hq _ _ _).put hq _ _ _).put hq _ _ _).put hq _ _ _
theorem NetB.mixed {m : Nat} {x : MNet} (h : NetB m x) (q : Int) (xss yss : List (List (List Int))) (n : Nat) (i j : Nat) (hj : j < 4) : NetB (m + 2) (mixX q xss yss n x i j) := (h.took j hj).sent _ _ _ _ _ _
def pairs6 : List (Nat × Nat) := [(0, 1), (0, 2), (0, 3), (1, 2), (1, 3), (2, 3)]
/-- pair by pair, until there is a quarrel -/
def dotGo (q : Int) (xss yss : List (List (List Int))) (n : Nat) : List (Nat × Nat) → MNet → List Int → MNet × List Int
  | [], x, fs => (x, fs)
  | p :: r, x, fs => if (mixX q xss yss n x p.1 p.2).xQuarrel.xSome = true then (mixX q xss yss n x p.1 p.2, mixF q xss yss n x fs p.1 p.2) else dotGo q xss yss n r (mixX q xss yss n x p.1 p.2) (mixF q xss yss n x fs p.1 p.2)
theorem dotGo_stop {q : Int} {xss yss : List (List (List Int))} {n : Nat} {i j : Nat} {r : List (Nat × Nat)} {x : MNet} {fs : List Int} (h : (mixX q xss yss n x i j).xQuarrel.xSome = true) : dotGo q xss yss n ((i, j) :: r) x fs = (mixX q xss yss n x i j, mixF q xss yss n x fs i j) := by rw [dotGo, if_pos h]
theorem dotGo_on {q : Int} {xss yss : List (List (List Int))} {n : Nat} {i j : Nat} {r : List (Nat × Nat)} {x : MNet} {fs : List Int} (h : (mixX q xss yss n x i j).xQuarrel.xSome = false) : dotGo q xss yss n ((i, j) :: r) x fs = dotGo q xss yss n r (mixX q xss yss n x i j) (mixF q xss yss n x fs i j) := by rw [dotGo, if_neg (by rw [h]; simp)]
theorem dotGo_ok {q : Int} (hq : q = 2 ∨ q = 256) (xss yss : List (List (List Int))) (n : Nat) : ∀ (ps : List (Nat × Nat)) (m : Nat) (x : MNet) (fs : List Int), (∀ p ∈ ps, p.2 < 4) → NetB m x → Ok16 q fs → NetB (m + 2 * ps.length) (dotGo q xss yss n ps x fs).1 ∧ Ok16 q (dotGo q xss yss n ps x fs).2
  | [], m, x, fs, _, hB, hF => ⟨hB, hF⟩
  | p :: r, m, x, fs, hp, hB, hF => by
    have h1 := hB.mixed q xss yss n p.1 p.2 (hp p (by simp))
    have h2 := mixF_ok hq xss yss n x hF p.1 p.2
    rw [dotGo]
    split
    · exact ⟨h1.mono (by simp; omega), h2⟩
    · have h3 := dotGo_ok hq xss yss n r (m + 2) _ _ (fun z hz => hp z (by simp [hz])) h1 h2
      exact ⟨h3.1.mono (by simp; omega), h3.2⟩
def dotX (q : Int) (xss yss : List (List (List Int))) (n : Nat) (x : MNet) : MNet := (dotGo q xss yss n pairs6 x (sqF q xss yss n)).1
def dotS (q : Int) (xss yss : List (List (List Int))) (n : Nat) (x : MNet) : List Int := (dotGo q xss yss n pairs6 x (sqF q xss yss n)).2
theorem dot_ok {q : Int} (hq : q = 2 ∨ q = 256) (xss yss : List (List (List Int))) (n : Nat) {m : Nat} {x : MNet} (hB : NetB m x) : NetB (m + 12) (dotX q xss yss n x) ∧ Ok16 q (dotS q xss yss n x) :=
  dotGo_ok hq xss yss n pairs6 m x _ (by decide) hB (sqF_ok hq xss yss n)
theorem two_of (i j : Nat) (h : i < j) (hj : j < 4) : Two i j := by unfold Two; omega
theorem kl_of (i j : Nat) (h : i < j) (hj : j < 4) : othF i j = (kOf i j : Nat) ∧ othS i j = (lOf i j : Nat) ∧ kOf i j < lOf i j ∧ lOf i j < 4 ∧ kOf i j ≠ i ∧ kOf i j ≠ j ∧ lOf i j ≠ i ∧ lOf i j ≠ j ∧ Three (othF i j) (othS i j) j := by
  have h2 := oth_ok (two_of i j h hj)
  unfold kOf lOf Three
  omega
end Go.Proofs.YtepobckhfodngaoGreat
