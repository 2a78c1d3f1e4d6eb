/-
  The plain law of FnDots, for what is drawn: both codes are one; where views are alike the row is worth the sum of products.
-/
import Derived.Test.YtepobckhfodngacGreatLawD
import Derived.Test.YtepobckhfodngacGreatDuo
import Derived.Test.YtepobckhfodngacGreatSpH
namespace Go.Proofs.YtepobckhfodngacGreat
open Go.ChangeShapes Go.WideShapes Go.ChangeAt Go.RowKit
set_option linter.unusedVariables false

theorem value_bdE {q : Int} {xss : List (List Int)} {but : Int} (hx : mirC q xss = 0) : 0 ≤ (valueR q xss but).xValue ∧ (valueR q xss but).xValue < q := by
  have hq := (mirC_zero hx).1
  have hq0 : 0 < q := by rcases hq with e | e <;> omega
  unfold valueR
  rw [if_pos hx]
  split
  · split
    · exact ⟨Int.emod_nonneg _ (by omega), Int.emod_lt_of_pos _ hq0⟩
    · exact ⟨by simp, by simpa using hq0⟩
  · exact ⟨by simp, by simpa using hq0⟩
theorem isAlikeR_trueE {q : Int} {xss : List (List Int)} {but : Int} (h : isAlikeR q xss but = true) : mirC q xss = 0 ∧ isBut but = true ∧ alikeB xss but = true := by
  unfold isAlikeR at h
  simp only [Bool.and_eq_true, decide_eq_true_eq] at h
  exact ⟨h.1.1, h.1.2, h.2⟩
theorem fltC_drawn {xs : List MMirror} (h0 : 0 < xs.length) (h : ∀ j, 0 < j → j < xs.length → mirC (xs.getD j zM).xQ (xs.getD j zM).xViews = 0) : fltC xs = mirC (xs.getD 0 zM).xQ (xs.getD 0 zM).xViews := by
  by_cases hz : mirC (xs.getD 0 zM).xQ (xs.getD 0 zM).xViews = 0
  · rw [hz]
    refine fltC_all xs fun j hj => ?_
    rcases Nat.eq_zero_or_pos j with rfl | hp
    · exact hz
    · exact h j hp hj
  · exact fltC_first xs 0 h0 (fun j hj => by omega) hz
theorem mirsC_ok {q : Int} : ∀ {xs : List MMirror}, OkMs xs → mirsC q xs = 0 ∨ mirsC q xs = 1
  | [], _ => .inl rfl
  | x :: r, h => by
    have h0 : mirC x.xQ x.xViews = 0 := h 0 (by simp)
    rw [mirsC, if_pos h0]
    split
    · exact mirsC_ok (fun j hj => h (j + 1) (by simpa using hj))
    · exact .inr rfl
theorem dotCI_drawn (x : MNet) {xs ys : List MMirror} (h : DrawnD xs ys) : dotCI x xs ys = dotCS x xs ys := by
  by_cases h1 : quietC x = 0
  · by_cases h2 : dotM xs ys
    · rw [dotCI_ls h1 h2]
      have ex := fltC_drawn h.h0 h.okx
      have ey : fltC ys = 0 := fltC_all ys h.oky
      by_cases hz : mirC (xs.getD 0 zM).xQ (xs.getD 0 zM).xViews = 0
      · have okx : OkMs xs := fun j hj => by
          rcases Nat.eq_zero_or_pos j with rfl | hp
          · exact hz
          · exact h.okx j hp hj
        have kx : fltC xs = 0 := by rw [ex, hz]
        by_cases hs : sameQ xs ys
        · rw [dotCS_ok h1 h2 kx ey hs]
          have a := mirsC_all (xs.getD 0 zM).xQ xs (fun j hj => ⟨okx j hj, (hs j hj).1⟩)
          have b := mirsC_all (xs.getD 0 zM).xQ ys (fun j hj => ⟨h.oky j hj, (hs j (by have := h2.2.2; omega)).2⟩)
          simp only [lsC, a, b, if_true]
        · rw [dotCS_q h1 h2 kx ey hs]
          rcases mirsC_ok (q := (xs.getD 0 zM).xQ) okx with a | a
          · rcases mirsC_ok (q := (xs.getD 0 zM).xQ) h.oky with b | b
            · exact absurd (fun j hj => ⟨(mirsC_zero a j hj).2, (mirsC_zero b j (by have := h2.2.2; omega)).2⟩) hs
            · unfold lsC; rw [if_pos a]; unfold lsC; rw [if_neg (by rw [b]; decide), b]
          · unfold lsC; rw [if_neg (by rw [a]; decide), a]
      · rw [dotCS_x h1 h2 (by rw [ex]; exact hz), ex]
        have a := mirsC_fault (xs.getD 0 zM).xQ xs 0 h.h0 (fun j hj => by omega) hz
        unfold lsC
        rw [if_neg (by rw [a]; exact hz), a]
    · rw [dotCI_many h1 h2, dotCS_many h1 h2]
  · rw [dotCI_net h1, dotCS_net h1]
def vl (xs : List MMirror) (t : Nat) : MIntResult := valueR (xs.getD t zM).xQ (xs.getD t zM).xViews (-1)
def al (xs : List MMirror) (t : Nat) : Bool := isAlikeR (xs.getD t zM).xQ (xs.getD t zM).xViews (-1)
def sumV (xs ys : List MMirror) : Nat → Int
  | 0 => 0
  | n + 1 => sumV xs ys n + (vl xs n).xValue * (vl ys n).xValue
def alV (xs ys : List MMirror) : Nat → Bool
  | 0 => true
  | n + 1 => (alV xs ys n && al xs n) && al ys n
theorem alV_of {xs ys : List MMirror} : ∀ {n}, alV xs ys n = true → n ≤ xs.length → n ≤ ys.length → AlT (vsOf xs) n ∧ AlT (vsOf ys) n
  | 0, _, _, _ => ⟨fun t ht => by omega, fun t ht => by omega⟩
  | n + 1, h, hx, hy => by
    simp only [alV, Bool.and_eq_true] at h
    obtain ⟨i1, i2⟩ := alV_of h.1.1 (by omega) (by omega)
    have k1 := (isAlikeR_trueE h.1.2).2.2
    have k2 := (isAlikeR_trueE h.2).2.2
    constructor
    · intro t ht
      rcases Nat.lt_or_ge t n with h' | h'
      · exact i1 t h'
      · obtain rfl : t = n := by omega
        rw [vsOf_getD xs t (by omega)]; exact k1
    · intro t ht
      rcases Nat.lt_or_ge t n with h' | h'
      · exact i2 t h'
      · obtain rfl : t = n := by omega
        rw [vsOf_getD ys t (by omega)]; exact k2
theorem sumV_mod {q : Int} {xs ys : List MMirror} {m : Nat} (hx : ∀ t, t < m → OkM q (xs.getD t zM)) (hy : ∀ t, t < m → OkM q (ys.getD t zM)) (lx : m ≤ xs.length) (ly : m ≤ ys.length) (ax : AlT (vsOf xs) m) (ay : AlT (vsOf ys) m) : ∀ n, n ≤ m → sumV xs ys n % q = prodN (vsOf xs) (vsOf ys) n % q
  | 0, _ => rfl
  | n + 1, h => by
    have ih := sumV_mod hx hy lx ly ax ay n (by omega)
    have e1 : vl xs n = ⟨0, wT (vsOf xs) n % q⟩ := by
      have k := hx n (by omega)
      have a := ax n (by omega)
      have v := vsOf_getD xs n (by omega)
      unfold vl
      rw [k.2]
      rw [← v]
      exact value_wT (by rw [v]; have := k.1; rw [k.2] at this; exact this) a
    have e2 : vl ys n = ⟨0, wT (vsOf ys) n % q⟩ := by
      have k := hy n (by omega)
      have a := ay n (by omega)
      have v := vsOf_getD ys n (by omega)
      unfold vl
      rw [k.2]
      rw [← v]
      exact value_wT (by rw [v]; have := k.1; rw [k.2] at this; exact this) a
    rw [sumV, prodN, e1, e2, Int.add_emod, ih, ← Int.add_emod]
    dsimp only
    rw [Int.add_emod, ← Int.mul_emod, ← Int.add_emod]
theorem vl_bd {q : Int} {xs : List MMirror} {t : Nat} (h : OkM q (xs.getD t zM)) : 0 ≤ (vl xs t).xValue ∧ (vl xs t).xValue ≤ 255 := by
  have b := value_bdE (but := -1) h.1
  have hq := (mirC_zero h.1).1
  unfold vl
  rcases hq with e | e <;> omega
theorem sumV_bd {q : Int} {xs ys : List MMirror} {m : Nat} (hx : ∀ t, t < m → OkM q (xs.getD t zM)) (hy : ∀ t, t < m → OkM q (ys.getD t zM)) : ∀ n, n ≤ m → 0 ≤ sumV xs ys n ∧ sumV xs ys n ≤ 65025 * n
  | 0, _ => by simp [sumV]
  | n + 1, h => by
    have ih := sumV_bd hx hy n (by omega)
    have a := vl_bd (hx n (by omega))
    have b := vl_bd (hy n (by omega))
    have c : 0 ≤ (vl xs n).xValue * (vl ys n).xValue := Int.mul_nonneg a.1 b.1
    have d : (vl xs n).xValue * (vl ys n).xValue ≤ 255 * 255 := Int.mul_le_mul a.2 b.2 b.1 (by omega)
    simp only [sumV]
    omega
/-- what stands where no code is told -/
structure DotsOk (x : MNet) (xs ys : List MMirror) (n : Nat) (q : Int) : Prop where
  lx : xs.length = n
  ly : ys.length = n
  hn : 1 ≤ n ∧ n ≤ 3
  hq : q = 2 ∨ q = 256
  okx : ∀ t, t < n → OkM q (xs.getD t zM)
  oky : ∀ t, t < n → OkM q (ys.getD t zM)
  nq : x.xQuarrel.xSome = false
  st : 0 ≤ x.xSent ∧ x.xSent ≤ 99999
theorem dotsOk {x : MNet} {xs ys : List MMirror} (hd : DrawnD xs ys) (hc : dotCS x xs ys = 0) : DotsOk x xs ys xs.length (xs.getD 0 zM).xQ := by
  have hi : dotCI x xs ys = 0 := by rw [dotCI_drawn x hd]; exact hc
  obtain ⟨zn, nq, RO⟩ := dotCS_zero hc
  have h1 : quietC x = 0 := by
    by_cases h1 : quietC x = 0
    · exact h1
    · rw [dotCS_net h1] at hc; exact absurd hc h1
  have h2 : dotM xs ys := by
    by_cases h2 : dotM xs ys
    · exact h2
    · rw [dotCS_many h1 h2] at hc; cases hc
  rw [dotCI_ls h1 h2] at hi
  obtain ⟨a, b⟩ := lsC_two hi
  exact ⟨rfl, RO.ly, ⟨hd.h0, hd.h3⟩, RO.hq, fun t ht => mirsC_zero a t ht, fun t ht => mirsC_zero b t (by rw [RO.ly]; exact ht), nq, ((listsB_iff x).1 (netC_zero zn).2.2.1).2.2⟩
/-- the plain law -/
theorem dots {x : MNet} {xs ys : List MMirror} {n : Nat} {q : Int} (hd : DotsOk x xs ys n q) (hc : dotCS x xs ys = 0) (ha : alV xs ys n = true) :
    ((dotR 0 x xs ys).xNet.xQuarrel.xSome = false ∧ (dotR 0 x xs ys).xNet.xSent = x.xSent + 12 ∧ mirC (dotR 0 x xs ys).xMirror.xQ (dotR 0 x xs ys).xMirror.xViews = 0 ∧ valueR (dotR 0 x xs ys).xMirror.xQ (dotR 0 x xs ys).xMirror.xViews (-1) = ⟨0, sumV xs ys n % q⟩) ∨
    ((dotR 0 x xs ys).xNet.xQuarrel.xSome = true ∧ (judgeR (dotR 0 x xs ys).xNet.xQuarrel).xCode = 0 ∧ (x.xCheat.xWho = (judgeR (dotR 0 x xs ys).xNet.xQuarrel).xFirst ∨ x.xCheat.xWho = (judgeR (dotR 0 x xs ys).xNet.xQuarrel).xSecond) ∧ 0 ≤ x.xCheat.xWho) := by
  obtain ⟨-, -, RO⟩ := dotCS_zero hc
  have hq0 : (xs.getD 0 zM).xQ = q := (hd.okx 0 (by have := hd.hn; omega)).2
  rw [dotR_ok hq0 hd.lx]
  obtain ⟨ax, ay⟩ := alV_of ha (by rw [hd.lx]; exact Nat.le_refl _) (by rw [hd.ly]; exact Nat.le_refl _)
  rcases dot_alike hd.hq RO.ox ax ay hd.nq with ⟨g0, g1, ps, g2, g3, g4⟩ | h
  · refine .inl ⟨g0, g1, ?_⟩
    dsimp only
    rw [g0, mOf_on, g3]
    obtain ⟨k0, k1, k2⟩ := flatR_value hd.hq g2
    refine ⟨k0, ?_⟩
    rw [k2, g4, sumV_mod hd.okx hd.oky (by rw [hd.lx]; exact Nat.le_refl _) (by rw [hd.ly]; exact Nat.le_refl _) ax ay n (Nat.le_refl _)]
  · exact .inr h
end Go.Proofs.YtepobckhfodngacGreat
