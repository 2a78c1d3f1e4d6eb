/-
  The plain part of FnDots: where views are alike, a row of products is worth the sum of them, or there is a quarrel in which who cheats is told apart. Nothing of the program is named here.
-/
import Derived.Test.YtepobckhfodngacGreatDotM
import Derived.Test.YtepobckhfodngacGreatSpB
import Derived.Test.YtepobckhfodngacGreatLawJ
import Derived.Test.YtepobckhfodngacGreatLawM
namespace Go.Proofs.YtepobckhfodngacGreat
open Go.ChangeShapes Go.WideShapes Go.ChangeAt Go.RowKit
set_option linter.unusedVariables false

/-- what all that know part k of term t say it is -/
def agT (xss : List (List (List Int))) (t k : Nat) : Int := pt (xss.getD t []) (knower k (-1)) k
def AlT (xss : List (List (List Int))) (n : Nat) : Prop := ∀ t, t < n → alikeB (xss.getD t []) (-1) = true
theorem agT_of {xss : List (List (List Int))} {n t i k : Nat} (h : AlT xss n) (ht : t < n) (hi : i < 4) (hk : k < 4) (e : i ≠ k) : pt (xss.getD t []) i k = agT xss t k := by
  rcases (alikeB_iff _ _).1 (h t ht) k hk i hi with h | h | h
  · exact absurd h e
  · omega
  · exact h
/-- what a party's own products are worth together -/
def sAg (xss yss : List (List (List Int))) (k : Nat) : Nat → Int
  | 0 => 0
  | n + 1 => sAg xss yss k n + agT xss n k * agT yss n k
def cAg (xss yss : List (List (List Int))) (i j : Nat) : Nat → Int
  | 0 => 0
  | n + 1 => cAg xss yss i j n + (agT xss n i * agT yss n j + agT xss n j * agT yss n i)
theorem sqN_self {xss yss : List (List (List Int))} (hx : OwnT xss) (k : Nat) : ∀ n, sqN xss yss k k n = 0
  | 0 => rfl
  | n + 1 => by rw [sqN, sqN_self hx k n, hx n k]; simp
theorem sqN_ag {xss yss : List (List (List Int))} {m : Nat} (hx : AlT xss m) (hy : AlT yss m) (p k : Nat) (hp : p < 4) (hk : k < 4) (e : p ≠ k) : ∀ n, n ≤ m → sqN xss yss p k n = sAg xss yss k n
  | 0, _ => rfl
  | n + 1, h => by rw [sqN, sAg, sqN_ag hx hy p k hp hk e n (by omega), agT_of hx (by omega) hp hk e, agT_of hy (by omega) hp hk e]
theorem crN_ag {xss yss : List (List (List Int))} {m : Nat} (hx : AlT xss m) (hy : AlT yss m) (p i j : Nat) (hp : p < 4) (hi : i < 4) (hj : j < 4) (e1 : p ≠ i) (e2 : p ≠ j) : ∀ n, n ≤ m → crN xss yss p i j n = cAg xss yss i j n
  | 0, _ => rfl
  | n + 1, h => by rw [crN, cAg, crN_ag hx hy p i j hp hi hj e1 e2 n (by omega), agT_of hx (by omega) hp hi e1, agT_of hy (by omega) hp hj e2, agT_of hx (by omega) hp hj e2, agT_of hy (by omega) hp hi e1]
/-- four parts, each an element -/
def P4 (q : Int) (ps : List Int) : Prop := ps.length = 4 ∧ okV q ps = true
theorem p4_lit {q a b c d : Int} (ha : 0 ≤ a ∧ a < q) (hb : 0 ≤ b ∧ b < q) (hc : 0 ≤ c ∧ c < q) (hd : 0 ≤ d ∧ d < q) : P4 q [a, b, c, d] := by
  refine ⟨rfl, ?_⟩
  simp [okV, ha, hb, hc, hd]
theorem p4_of {q : Int} {ps : List Int} (h : P4 q ps) : ∃ a b c d, ps = [a, b, c, d] ∧ (0 ≤ a ∧ a < q) ∧ (0 ≤ b ∧ b < q) ∧ (0 ≤ c ∧ c < q) ∧ (0 ≤ d ∧ d < q) := by
  obtain ⟨a, b, c, d, rfl⟩ := four ps h.1
  have := h.2
  simp [okV] at this
  exact ⟨a, b, c, d, rfl, this.1, this.2.1, this.2.2.1, this.2.2.2⟩
def flatR (ps : List Int) : List Int := (mirRows ps).flatten
theorem flatR_lit (a b c d : Int) : flatR [a, b, c, d] = [0, b, c, d, a, 0, c, d, a, b, 0, d, a, b, c, 0] := rfl
theorem unflat_flatR (a b c d : Int) : unflat (flatR [a, b, c, d]) = mirRows [a, b, c, d] := rfl
theorem sqF_ag {q : Int} (hq : q = 2 ∨ q = 256) {xss yss : List (List (List Int))} {n : Nat} (ho : OwnT xss) (hx : AlT xss n) (hy : AlT yss n) : sqF q xss yss n = flatR [sAg xss yss 0 n % q, sAg xss yss 1 n % q, sAg xss yss 2 n % q, sAg xss yss 3 n % q] := by
  rw [flatR_lit]
  have o := fun k => sqN_self (yss := yss) ho k n
  have a := fun p k hp hk e => sqN_ag hx hy p k hp hk e n (Nat.le_refl _)
  show [sqN xss yss 0 0 n % q, sqN xss yss 0 1 n % q, sqN xss yss 0 2 n % q, sqN xss yss 0 3 n % q, sqN xss yss 1 0 n % q, sqN xss yss 1 1 n % q, sqN xss yss 1 2 n % q, sqN xss yss 1 3 n % q, sqN xss yss 2 0 n % q, sqN xss yss 2 1 n % q, sqN xss yss 2 2 n % q, sqN xss yss 2 3 n % q, sqN xss yss 3 0 n % q, sqN xss yss 3 1 n % q, sqN xss yss 3 2 n % q, sqN xss yss 3 3 n % q] = _
  rw [o 0, o 1, o 2, o 3, a 0 1 (by omega) (by omega) (by omega), a 0 2 (by omega) (by omega) (by omega), a 0 3 (by omega) (by omega) (by omega), a 1 0 (by omega) (by omega) (by omega), a 1 2 (by omega) (by omega) (by omega), a 1 3 (by omega) (by omega) (by omega), a 2 0 (by omega) (by omega) (by omega), a 2 1 (by omega) (by omega) (by omega), a 2 3 (by omega) (by omega) (by omega), a 3 0 (by omega) (by omega) (by omega), a 3 1 (by omega) (by omega) (by omega), a 3 2 (by omega) (by omega) (by omega)]
  simp
theorem md_bd {q : Int} (hq : q = 2 ∨ q = 256) (z : Int) : 0 ≤ z % q ∧ z % q < q := ⟨Int.emod_nonneg _ (by omega), Int.emod_lt_of_pos _ (by omega)⟩
/-- one pair, where no quarrel comes of it: the six numbers that are put are of two kinds -/
theorem mix_flat {q : Int} (hq : q = 2 ∨ q = 256) {xss yss : List (List (List Int))} {n : Nat} {x : MNet} {i j : Nat} {ps : List Int} {c : Int} (hij : i < j) (hj : j < 4) (h : P4 q ps)
    (hk : mixK q xss yss n x (kOf i j) i j = (c - wordQ q x j) % q) (hl : mixK q xss yss n x (lOf i j) i j = (c - wordQ q x j) % q) (hu : mixU q xss yss n x i j = (c - wordQ q x j) % q) :
    ∃ ps', P4 q ps' ∧ mixF q xss yss n x (flatR ps) i j = flatR ps' ∧ sum4 ps' % q = (sum4 ps + c) % q := by
  obtain ⟨a, b, e, d, rfl, ha, hb, he, hd⟩ := p4_of h
  unfold mixF
  rw [hk, hl, hu, flatR_lit]
  generalize wordQ q x j = wd
  have key : ∀ u v s : Int, ((u + wd) % q + (v + (c - wd) % q) % q + s) % q = (u + v + s + c) % q := by
    intro u v s
    rw [show (u + wd) % q + (v + (c - wd) % q) % q + s = (u + wd) % q + ((v + (c - wd) % q) % q + s) by omega, Int.emod_add_emod, show u + wd + ((v + (c - wd) % q) % q + s) = (v + (c - wd) % q) % q + (u + wd + s) by omega, Int.emod_add_emod, show v + (c - wd) % q + (u + wd + s) = (c - wd) % q + (v + u + wd + s) by omega, Int.emod_add_emod]
    congr 1
    omega
  obtain ⟨rfl, rfl⟩ | ⟨rfl, rfl⟩ | ⟨rfl, rfl⟩ | ⟨rfl, rfl⟩ | ⟨rfl, rfl⟩ | ⟨rfl, rfl⟩ : (i = 0 ∧ j = 1) ∨ (i = 0 ∧ j = 2) ∨ (i = 0 ∧ j = 3) ∨ (i = 1 ∧ j = 2) ∨ (i = 1 ∧ j = 3) ∨ (i = 2 ∧ j = 3) := by omega
  · refine ⟨[(a + (c - wd) % q) % q, (b + wd) % q, e, d], p4_lit (md_bd hq _) (md_bd hq _) he hd, rfl, ?_⟩
    show ((a + (c - wd) % q) % q + (b + wd) % q + e + d) % q = _
    have := key b a (e + d)
    simp only [sum4, List.getD_cons_zero, List.getD_cons_succ]
    rw [show (a + (c - wd) % q) % q + (b + wd) % q + e + d = (b + wd) % q + (a + (c - wd) % q) % q + (e + d) by omega, this]
    congr 1
    omega
  · refine ⟨[(a + (c - wd) % q) % q, b, (e + wd) % q, d], p4_lit (md_bd hq _) hb (md_bd hq _) hd, rfl, ?_⟩
    have := key e a (b + d)
    simp only [sum4, List.getD_cons_zero, List.getD_cons_succ]
    rw [show (a + (c - wd) % q) % q + b + (e + wd) % q + d = (e + wd) % q + (a + (c - wd) % q) % q + (b + d) by omega, this]
    congr 1
    omega
  · refine ⟨[(a + (c - wd) % q) % q, b, e, (d + wd) % q], p4_lit (md_bd hq _) hb he (md_bd hq _), rfl, ?_⟩
    have := key d a (b + e)
    simp only [sum4, List.getD_cons_zero, List.getD_cons_succ]
    rw [show (a + (c - wd) % q) % q + b + e + (d + wd) % q = (d + wd) % q + (a + (c - wd) % q) % q + (b + e) by omega, this]
    congr 1
    omega
  · refine ⟨[a, (b + (c - wd) % q) % q, (e + wd) % q, d], p4_lit ha (md_bd hq _) (md_bd hq _) hd, rfl, ?_⟩
    have := key e b (a + d)
    simp only [sum4, List.getD_cons_zero, List.getD_cons_succ]
    rw [show a + (b + (c - wd) % q) % q + (e + wd) % q + d = (e + wd) % q + (b + (c - wd) % q) % q + (a + d) by omega, this]
    congr 1
    omega
  · refine ⟨[a, (b + (c - wd) % q) % q, e, (d + wd) % q], p4_lit ha (md_bd hq _) he (md_bd hq _), rfl, ?_⟩
    have := key d b (a + e)
    simp only [sum4, List.getD_cons_zero, List.getD_cons_succ]
    rw [show a + (b + (c - wd) % q) % q + e + (d + wd) % q = (d + wd) % q + (b + (c - wd) % q) % q + (a + e) by omega, this]
    congr 1
    omega
  · refine ⟨[a, b, (e + (c - wd) % q) % q, (d + wd) % q], p4_lit ha hb (md_bd hq _) (md_bd hq _), rfl, ?_⟩
    have := key d e (a + b)
    simp only [sum4, List.getD_cons_zero, List.getD_cons_succ]
    rw [show a + b + (e + (c - wd) % q) % q + (d + wd) % q = (d + wd) % q + (e + (c - wd) % q) % q + (a + b) by omega, this]
    congr 1
    omega
/-- one pair -/
theorem mix_pair {q : Int} (hq : q = 2 ∨ q = 256) {xss yss : List (List (List Int))} {n : Nat} (hx : AlT xss n) (hy : AlT yss n) {x : MNet} (hn : x.xQuarrel.xSome = false) {i j : Nat} {ps : List Int} (hij : i < j) (hj : j < 4) (h : P4 q ps) :
    ((mixX q xss yss n x i j).xQuarrel.xSome = false ∧ ∃ ps', P4 q ps' ∧ mixF q xss yss n x (flatR ps) i j = flatR ps' ∧ sum4 ps' % q = (sum4 ps + cAg xss yss i j n) % q) ∨
    ((mixX q xss yss n x i j).xQuarrel.xSome = true ∧ (judgeR (mixX q xss yss n x i j).xQuarrel).xCode = 0 ∧ (x.xCheat.xWho = (judgeR (mixX q xss yss n x i j).xQuarrel).xFirst ∨ x.xCheat.xWho = (judgeR (mixX q xss yss n x i j).xQuarrel).xSecond) ∧ 0 ≤ x.xCheat.xWho) := by
  obtain ⟨e1, e2, l1, l2, n1, n2, n3, n4, h3⟩ := kl_of i j hij hj
  have ck := crN_ag hx hy (kOf i j) i j (by omega) (by omega) hj n1 n2 n (Nat.le_refl _)
  have cl := crN_ag hx hy (lOf i j) i j (by omega) (by omega) hj n3 n4 n (Nat.le_refl _)
  have em : ∀ z : Int, (z % q - wordQ q x j) % q = (z - wordQ q x j) % q := fun z => by rw [Int.emod_sub_emod]
  have hk : mixK q xss yss n x (kOf i j) i j = (cAg xss yss i j n - wordQ q x j) % q := by unfold mixK; rw [ck, em]
  have hl : mixK q xss yss n x (lOf i j) i j = (cAg xss yss i j n - wordQ q x j) % q := by unfold mixK; rw [cl, em]
  have eX : (mixX q xss yss n x i j).xQuarrel = quarN (tookN x j) q (othF i j) (othS i j) j ((cAg xss yss i j n - wordQ q x j) % q) ((cAg xss yss i j n - wordQ q x j) % q) := by unfold mixX; rw [hk, hl]; rfl
  have ht : (tookN x j).xQuarrel.xSome = false := hn
  cases hs : (mixX q xss yss n x i j).xQuarrel.xSome
  · refine .inl ⟨rfl, mix_flat hq hij hj h hk hl ?_⟩
    unfold mixU
    rw [hk]
    rw [eX] at hs
    exact quiet_value h3 ht hs
  · rw [eX] at hs ⊢
    exact .inr ⟨rfl, quarrel_who (x := tookN x j) h3 ht hs⟩
def pairSum (xss yss : List (List (List Int))) (n : Nat) : List (Nat × Nat) → Int
  | [] => 0
  | p :: r => cAg xss yss p.1 p.2 n + pairSum xss yss n r
theorem dotGo_alike {q : Int} (hq : q = 2 ∨ q = 256) {xss yss : List (List (List Int))} {n : Nat} (hx : AlT xss n) (hy : AlT yss n) : ∀ (l : List (Nat × Nat)) (x : MNet) (ps : List Int), (∀ p ∈ l, p.1 < p.2 ∧ p.2 < 4) → x.xQuarrel.xSome = false → P4 q ps →
    ((dotGo q xss yss n l x (flatR ps)).1.xQuarrel.xSome = false ∧ (dotGo q xss yss n l x (flatR ps)).1.xSent = x.xSent + 2 * l.length ∧ ∃ ps', P4 q ps' ∧ (dotGo q xss yss n l x (flatR ps)).2 = flatR ps' ∧ sum4 ps' % q = (sum4 ps + pairSum xss yss n l) % q) ∨
    ((dotGo q xss yss n l x (flatR ps)).1.xQuarrel.xSome = true ∧ (judgeR (dotGo q xss yss n l x (flatR ps)).1.xQuarrel).xCode = 0 ∧ (x.xCheat.xWho = (judgeR (dotGo q xss yss n l x (flatR ps)).1.xQuarrel).xFirst ∨ x.xCheat.xWho = (judgeR (dotGo q xss yss n l x (flatR ps)).1.xQuarrel).xSecond) ∧ 0 ≤ x.xCheat.xWho)
  | [], x, ps, _, hn, h => .inl ⟨hn, by simp [dotGo], ps, h, rfl, by simp [pairSum]⟩
  | p :: r, x, ps, hp, hn, h => by
    obtain ⟨p1, p2⟩ := hp p (by simp)
    rcases mix_pair hq hx hy hn p1 p2 h with ⟨hs, ps', k1, k2, k3⟩ | ⟨hs, k1, k2, k3⟩
    · rw [show (p :: r) = (p.1, p.2) :: r from rfl, dotGo_on hs, k2]
      have hsent : (mixX q xss yss n x p.1 p.2).xSent = x.xSent + 2 := rfl
      have hch : (mixX q xss yss n x p.1 p.2).xCheat = x.xCheat := rfl
      rcases dotGo_alike hq hx hy r (mixX q xss yss n x p.1 p.2) ps' (fun z hz => hp z (by simp [hz])) hs k1 with ⟨g0, g1, ps2, g2, g3, g4⟩ | ⟨g0, g1, g2, g3⟩
      · refine .inl ⟨g0, ?_, ps2, g2, g3, ?_⟩
        · rw [g1, hsent]; simp only [List.length_cons]; omega
        · rw [g4, ← Int.emod_add_emod, k3, Int.emod_add_emod]
          simp only [pairSum]
          congr 1
          omega
      · rw [hch] at g2 g3
        exact .inr ⟨g0, g1, g2, g3⟩
    · rw [show (p :: r) = (p.1, p.2) :: r from rfl, dotGo_stop hs]
      exact .inr ⟨hs, k1, k2, k3⟩
/-- what a term is worth -/
def wT (xss : List (List (List Int))) (t : Nat) : Int := agT xss t 0 + agT xss t 1 + agT xss t 2 + agT xss t 3
def prodN (xss yss : List (List (List Int))) : Nat → Int
  | 0 => 0
  | n + 1 => prodN xss yss n + wT xss n * wT yss n
theorem pairs_prod (xss yss : List (List (List Int))) : ∀ n, sAg xss yss 0 n + sAg xss yss 1 n + sAg xss yss 2 n + sAg xss yss 3 n + pairSum xss yss n pairs6 = prodN xss yss n
  | 0 => rfl
  | n + 1 => by
    have ih := pairs_prod xss yss n
    simp only [pairSum, pairs6, sAg, cAg, prodN, wT] at ih ⊢
    rw [← ih]
    generalize agT xss n 0 = a0
    generalize agT xss n 1 = a1
    generalize agT xss n 2 = a2
    generalize agT xss n 3 = a3
    generalize agT yss n 0 = b0
    generalize agT yss n 1 = b1
    generalize agT yss n 2 = b2
    generalize agT yss n 3 = b3
    simp only [Int.add_mul, Int.mul_add]
    omega
/-- a row of products, where all views are alike -/
theorem dot_alike {q : Int} (hq : q = 2 ∨ q = 256) {xss yss : List (List (List Int))} {n : Nat} (ho : OwnT xss) (hx : AlT xss n) (hy : AlT yss n) {x : MNet} (hn : x.xQuarrel.xSome = false) :
    ((dotX q xss yss n x).xQuarrel.xSome = false ∧ (dotX q xss yss n x).xSent = x.xSent + 12 ∧ ∃ ps, P4 q ps ∧ dotS q xss yss n x = flatR ps ∧ sum4 ps % q = prodN xss yss n % q) ∨
    ((dotX q xss yss n x).xQuarrel.xSome = true ∧ (judgeR (dotX q xss yss n x).xQuarrel).xCode = 0 ∧ (x.xCheat.xWho = (judgeR (dotX q xss yss n x).xQuarrel).xFirst ∨ x.xCheat.xWho = (judgeR (dotX q xss yss n x).xQuarrel).xSecond) ∧ 0 ≤ x.xCheat.xWho) := by
  unfold dotX dotS
  rw [sqF_ag hq ho hx hy]
  have h4 := p4_lit (md_bd hq (sAg xss yss 0 n)) (md_bd hq (sAg xss yss 1 n)) (md_bd hq (sAg xss yss 2 n)) (md_bd hq (sAg xss yss 3 n))
  rcases dotGo_alike hq hx hy pairs6 x _ (by decide) hn h4 with ⟨g0, g1, ps2, g2, g3, g4⟩ | h
  · refine .inl ⟨g0, g1, ps2, g2, g3, ?_⟩
    rw [g4, ← pairs_prod]
    simp only [sum4, List.getD_cons_zero, List.getD_cons_succ]
    generalize pairSum xss yss n pairs6 = P
    generalize sAg xss yss 0 n = s0
    generalize sAg xss yss 1 n = s1
    generalize sAg xss yss 2 n = s2
    generalize sAg xss yss 3 n = s3
    rcases hq with rfl | rfl <;> omega
  · exact .inr h
/-- such a row is a mirror of what it is worth -/
theorem flatR_value {q : Int} (hq : q = 2 ∨ q = 256) {ps : List Int} (h : P4 q ps) : mirC q (unflat (flatR ps)) = 0 ∧ alikeB (unflat (flatR ps)) (-1) = true ∧ valueR q (unflat (flatR ps)) (-1) = ⟨0, sum4 ps % q⟩ := by
  obtain ⟨a, b, e, d, rfl, ha, hb, he, hd⟩ := p4_of h
  rw [unflat_flatR]
  exact ⟨mirC_mirRows hq rfl h.2, alike_mirRows rfl _, value_mirRows (-1) hq rfl h.2 (by decide)⟩
theorem value_wT {q : Int} {xss : List (List (List Int))} {t : Nat} (hc : mirC q (xss.getD t []) = 0) (ha : alikeB (xss.getD t []) (-1) = true) : valueR q (xss.getD t []) (-1) = ⟨0, wT xss t % q⟩ := by
  rw [valueR_ok hc (by decide) ha]
  have : sumK (xss.getD t []) (-1) 4 = wT xss t := by
    simp only [sumK, wT, agT]
    omega
  rw [this]
end Go.Proofs.YtepobckhfodngacGreat
