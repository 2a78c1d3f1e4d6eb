/-
  One product on both sides: MultMirrors.
-/
import Derived.Test.YtepobckhfodngaoGreatSpG
import Derived.Test.YtepobckhfodngaoGreatRow
namespace Go.Proofs.YtepobckhfodngaoGreat
open Go.ChangeShapes Go.WideShapes Go.ChangeAt Go.RowKit
set_option linter.unusedVariables false

theorem slB (B : Nat) : ∀ xs : List (List Int), (∀ j, (xs.getD j []).length ≤ B) → sl xs ≤ B * xs.length
  | [], _ => by simp [sl]
  | x :: r, h => by
    have h0 : x.length ≤ B := h 0
    have h1 := slB B r (fun j => h (j + 1))
    simp only [sl, List.length_cons, Nat.mul_add, Nat.mul_one]
    omega
theorem dotGo_tape {q : Int} {xss yss : List (List (List Int))} {n : Nat} : ∀ (ps : List (Nat × Nat)) (x : MNet) (fs : List Int), (dotGo q xss yss n ps x fs).1.xTape = x.xTape
  | [], x, fs => rfl
  | p :: r, x, fs => by
    rw [dotGo]
    split
    · rfl
    · exact dotGo_tape r _ _
theorem unflat_sl (fs : List Int) : sl (unflat fs) = 16 := rfl
theorem mOf_sl (s : Bool) (q : Int) (fs : List Int) : sl (mOf s q fs).xViews ≤ 16 := by
  cases s
  · rw [mOf_on, unflat_sl]; omega
  · rw [mOf_stop]; exact Nat.zero_le _
theorem dotR_cnt (x : MNet) (xs ys : List MMirror) (h : totNet x ≤ 1048576) : cntMixResult (dotR (dotCS x xs ys) x xs ys) ≤ 268435456 := by
  by_cases hc : dotCS x xs ys = 0
  · obtain ⟨zn, hqs, RO⟩ := dotCS_zero hc
    have NB := NetB.of zn (Fit.of_tot h)
    have hok := (dot_ok RO.hq (vsOf xs) (vsOf ys) xs.length NB).1
    rw [hc, dotR_ok rfl rfl]
    have h1 := cntNet_le x
    have h3 : cntNet x = cntTape x.xTape + x.xUsed.length + sl x.xHeard := rfl
    have ht : (dotX (xs.getD 0 zM).xQ (vsOf xs) (vsOf ys) xs.length x).xTape = x.xTape := dotGo_tape pairs6 x _
    have hs := slB _ _ hok.hr
    rw [hok.h4] at hs
    have hu := hok.u4
    have hm := mOf_sl (dotX (xs.getD 0 zM).xQ (vsOf xs) (vsOf ys) xs.length x).xQuarrel.xSome (xs.getD 0 zM).xQ (dotS (xs.getD 0 zM).xQ (vsOf xs) (vsOf ys) xs.length x)
    show sl (mOf _ _ _).xViews + (cntTape (dotX _ _ _ _ x).xTape + (dotX _ _ _ _ x).xUsed.length + sl (dotX _ _ _ _ x).xHeard) ≤ 268435456
    rw [ht, hu]
    omega
  · rw [dotR_bad hc]; show 0 + (0 + 0 + 0) ≤ _; omega
theorem sameQ_one (a b : MMirror) : sameQ [a] [b] ↔ b.xQ = a.xQ := by
  constructor
  · intro h; exact (h 0 (by simp)).2
  · intro h j hj
    obtain rfl : j = 0 := by simpa using hj
    exact ⟨rfl, h⟩
theorem dotCI_one (x : MNet) (a b : MMirror) : dotCI x [a] [b] = dotCS x [a] [b] := by
  by_cases h1 : quietC x = 0
  · have h2 : dotM [a] [b] := ⟨by simp, by simp, rfl⟩
    rw [dotCI_ls h1 h2]
    show lsC a.xQ [[a], [b]] = _
    by_cases ha : mirC a.xQ a.xViews = 0
    · have ea : fltC [a] = 0 := by simp [fltC, ha]
      have ma : mirsC a.xQ [a] = 0 := by simp [mirsC, ha]
      by_cases hb : mirC b.xQ b.xViews = 0
      · have eb : fltC [b] = 0 := by simp [fltC, hb]
        by_cases hq : b.xQ = a.xQ
        · rw [dotCS_ok h1 h2 ea eb ((sameQ_one a b).2 hq)]
          rw [hq] at hb
          simp [lsC, mirsC, ha, hb, hq]
        · rw [dotCS_q h1 h2 ea eb (fun h => hq ((sameQ_one a b).1 h))]
          simp [lsC, mirsC, ha, hb, hq]
      · have eb : fltC [b] = mirC b.xQ b.xViews := by simp [fltC, hb]
        rw [dotCS_y h1 h2 ea (by rw [eb]; exact hb), eb]
        simp [lsC, mirsC, ha, hb]
    · have ea : fltC [a] = mirC a.xQ a.xViews := by simp [fltC, ha]
      rw [dotCS_x h1 h2 (by rw [ea]; exact ha), ea]
      simp [lsC, mirsC, ha]
  · rw [dotCI_net h1, dotCS_net h1]
theorem RdMirrorS.one {W : World} {g : Nat} {m : MMirror} {p : Option Addr} {c : Nat} (h : Blk W g 36 #[.int .i64 m.xQ, .slice p m.xViews.length c]) (r : ReadsM W (.slice p m.xViews.length c) m.xViews) : RdMirrorS W (.slice (some ⟨g, 0, none⟩) 1 1) [m] :=
  ⟨some ⟨g, 0, none⟩, 1, rfl, by unfold maxLen; simp, fun _ => ⟨g, 0, rfl, h.lt, fun i hi => by
    obtain rfl : i = 0 := by simpa using hi
    exact ⟨p, c, h.at.1 0, h.at.1 1, r⟩⟩⟩
theorem OutMix.wide {w W W' W9 : World} {r : MMixResult} {e : Ending} {cs : List Nat} (h : OutMix W W' r e) (hb : Below w.heap.size w W) (h9 : Off cs W' W9) (hc : ∀ y ∈ cs, y < W.heap.size ∧ w.heap.size ≤ y) (h0 : Below w.heap.size w W') : OutMix w W9 r e := by
  obtain ⟨u, b0, b1, b2, b3, rfl, ow, f0, f1, f2, f3, B⟩ := h
  have hd : Dj (b0 ++ (b1 ++ (b2 ++ b3))) cs := fun g hg hm => by
    have := (hc g hm).1
    rcases List.mem_append.1 hg with h | h
    · have := f0 g h; omega
    · rcases List.mem_append.1 h with h | h
      · have := f1 g h; omega
      · rcases List.mem_append.1 h with h | h
        · have := f2 g h; omega
        · have := f3 g h; omega
  exact ⟨u, b0, b1, b2, b3, rfl, ow.off h9 hd, fun y hy => Nat.le_trans hb.size (f0 y hy), fun y hy => Nat.le_trans hb.size (f1 y hy), fun y hy => Nat.le_trans hb.size (f2 y hy), fun y hy => Nat.le_trans hb.size (f3 y hy), h0.trans (h9.toBelow h0.size (fun y hy => (hc y hy).2))⟩
theorem OutMix.got {w w' : World} {r : MMixResult} {e : Ending} (h : OutMix w w' r e) : ∃ cs, e = .returned (.agg cs) ∧ Rw 19 cs ∧ Below w.heap.size w w' := by
  obtain ⟨u, b0, b1, b2, b3, rfl, ow, f0, f1, f2, f3, B⟩ := h
  obtain ⟨cs, rfl, R⟩ := ow.row
  exact ⟨cs, rfl, R, B⟩
end Go.Proofs.YtepobckhfodngaoGreat
