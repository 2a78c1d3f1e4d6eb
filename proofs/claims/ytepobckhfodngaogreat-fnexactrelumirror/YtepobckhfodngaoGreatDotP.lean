/-
  Rows of products in the program: a number put to a part, and what each party multiplies alone.
-/
import Derived.Test.YtepobckhfodngaoGreatDotM0
import Derived.Test.YtepobckhfodngaoGreatMirI
import Derived.Deep.RegionWith
import Derived.Deep.RegionHeld3
namespace Go.Proofs.YtepobckhfodngaoGreat
open Go.ChangeShapes Go.WideShapes Go.ChangeAt Go.RowKit
set_option linter.unusedVariables false

/-- n views, one behind the other, in block g -/
def RdVs (w : World) (g n : Nat) (vss : List (List (List Int))) : Prop := g < w.heap.size ∧ ∀ t, t < n → Sq (vss.getD t []) ∧ w.rangeAt g (t * 16) (cells1 (vss.getD t []).flatten).toList
theorem RdVs.below {w w' : World} {g n : Nat} {vss : List (List (List Int))} (h : RdVs w g n vss) (hb : Below w.heap.size w w') : RdVs w' g n vss :=
  ⟨Nat.lt_of_lt_of_le h.1 hb.size, fun t ht => ⟨(h.2 t ht).1, fun j v hv => (hb.cell (p := ⟨g, t * 16 + j, none⟩) h.1).trans ((h.2 t ht).2 j v hv)⟩⟩
theorem RdVs.off {w w' : World} {g n : Nat} {vss : List (List (List Int))} {cs : List Nat} (h : RdVs w g n vss) (hb : Off cs w w') (k : g ∉ cs) : RdVs w' g n vss :=
  ⟨Nat.lt_of_lt_of_le h.1 hb.size, fun t ht => ⟨(h.2 t ht).1, fun j v hv => ((hb.at g h.1 k).1 _).trans ((h.2 t ht).2 j v hv)⟩⟩
theorem RdVs.one {w : World} {g n : Nat} {vss : List (List (List Int))} (h : RdVs w g n vss) (t p k : Nat) (ht : t < n) (hp : p < 4) (hk : k < 4) : w.cell? ⟨g, t * 16 + p * 4 + k, none⟩ = some (.int .i64 (pt (vss.getD t []) p k)) := by
  have h1 := (h.2 t ht).2 (p * 4 + k) (.int .i64 (pt (vss.getD t []) p k)) (by
    have hl := flat_len (h.2 t ht).1
    have hg := flat_getD (h.2 t ht).1 p k hp hk
    have hj : p * 4 + k < (vss.getD t []).flatten.length := by omega
    generalize (vss.getD t []).flatten = fx at *
    rw [List.getD_eq_getElem?_getD, List.getElem?_eq_getElem hj] at hg
    simp only [Option.getD_some] at hg
    simp [cells1, hg, hj])
  rw [← Nat.add_assoc] at h1
  exact h1
/-- all are elements -/
def BdT (q : Int) (vss : List (List (List Int))) : Prop := ∀ t i j, 0 ≤ pt (vss.getD t []) i j ∧ pt (vss.getD t []) i j < q

set_option maxHeartbeats 4000000 in
set_option maxRecDepth 100000 in
theorem impl_put (q : Int) (bS : Nat) (fs : List Int) (p k : Nat) (y : Int) (w : World) (Y : Blk w bS 85 (cells1 fs)) (hF : Ok16 q fs) (hq : q = 2 ∨ q = 256) (hp : p < 4) (hk : k < 4) (hy : 0 ≤ y ∧ y < q) :
    Calls Tryz.prog 150 #[.pointer (some ⟨bS, 0, none⟩), .int .i64 q, .int .i64 p, .int .i64 k, .int .i64 y] w fun e w' => e = .returned (.tuple #[]) ∧ Blk w' bS 85 (cells1 (putF q fs p k y)) ∧ Off [bS] w w' := by
  have c1 := Y.one (p * 4 + k) (by rw [hF.1]; omega)
  have f1 := Y.at.2 (p * 4 + k)
  have HOK : Hid (okR q (fs.getD (p * 4 + k) 0) y) := ⟨hq, (hF.2 _).1, (hF.2 _).2, hy.1, hy.2⟩
  have HPF : Hid (putF q fs p k y = fs.set (p * 4 + k) ((fs.getD (p * 4 + k) 0 + y) % q)) := rfl
  have hp1 : (p : Int) < 4 := by omega
  have hp0 : (0 : Int) ≤ (p : Int) := by omega
  have hk1 : (k : Int) < 4 := by omega
  have hk0 : (0 : Int) ≤ (k : Int) := by omega
  have HP4 : Hid (p < 4 ∧ k < 4) := ⟨hp, hk⟩
  clear hF hq hy hp hk
  generalize fs.getD (p * 4 + k) 0 = x at *
  have fd := field_1
  go_enter Tryz.func150, Tryz.ntmps150
  have Yd := Y.drew
  have Od : Off [bS] w w.drew := (Off.refl _ _).drew
  clear Y
  go_wp2_with fail
  go_region_with (first | (go_at_call 138; refine (impl_AddRing_yes q x y _ HOK.out).mono ?_; rintro e w7 ⟨rfl, hb7⟩; have Y7 := Yd.keep hb7; have O7 : Off [bS] w w7 := Od.trans (Off.ofBelow hb7); have c7 := (hb7.cell (p := ⟨bS, p * 4 + k, none⟩) Yd.lt).trans c1; have f7 := Y7.at.2 (p * 4 + k); clear hb7))
  all_goals
    have Y8 := Y7.set1 (p * 4 + k) ((x + y) % q)
    rw [← HPF.out] at Y8
    clear Y7 c7 f7 Yd Od c1
    go_wp2
    first | go_end0 | refine bodyPost_ret (results_none rfl _ _ _) rfl ?_
    exact ⟨rfl, Y8, O7.setCell _ _ (.inl (by simp))⟩
theorem sqF_zero (q : Int) (xss yss : List (List (List Int))) : cells1 (sqF q xss yss 0) = #[.int .i64 0, .int .i64 0, .int .i64 0, .int .i64 0, .int .i64 0, .int .i64 0, .int .i64 0, .int .i64 0, .int .i64 0, .int .i64 0, .int .i64 0, .int .i64 0, .int .i64 0, .int .i64 0, .int .i64 0, .int .i64 0] := by
  unfold sqF sqN
  simp [cells1, List.range, List.range.loop]
/-- the first parts done, of one term more -/
def sqT (q : Int) (xss yss : List (List (List Int))) (t m : Nat) : List Int := (List.range 16).map fun (j : Nat) => (if j < m then sqN xss yss (j / 4) (j % 4) (t + 1) else sqN xss yss (j / 4) (j % 4) t) % q
theorem sqT_zero (q : Int) (xss yss : List (List (List Int))) (t : Nat) : sqT q xss yss t 0 = sqF q xss yss t := by
  unfold sqT sqF
  refine List.map_congr_left fun j hj => ?_
  rw [if_neg (by omega)]
theorem sqT_all (q : Int) (xss yss : List (List (List Int))) (t : Nat) : sqT q xss yss t 16 = sqF q xss yss (t + 1) := by
  unfold sqT sqF
  refine List.map_congr_left fun j hj => ?_
  rw [if_pos (by simpa using hj)]
theorem sqT_ok {q : Int} (hq : q = 2 ∨ q = 256) (xss yss : List (List (List Int))) (t m : Nat) : Ok16 q (sqT q xss yss t m) := by
  refine ⟨by simp [sqT], fun j => ?_⟩
  by_cases hj : j < 16
  · have : (sqT q xss yss t m).getD j 0 = (if j < m then sqN xss yss (j / 4) (j % 4) (t + 1) else sqN xss yss (j / 4) (j % 4) t) % q := by simp [sqT, hj]
    rw [this]
    exact ⟨Int.emod_nonneg _ (by omega), Int.emod_lt_of_pos _ (by omega)⟩
  · have : (sqT q xss yss t m).getD j 0 = 0 := by simp [sqT, hj]
    rw [this]
    omega
theorem sqT_put (q : Int) (xss yss : List (List (List Int))) (t p k : Nat) (hp : p < 4) (hk : k < 4) : putF q (sqT q xss yss t (p * 4 + k)) p k (pt (xss.getD t []) p k * pt (yss.getD t []) p k % q) = sqT q xss yss t (p * 4 + (k + 1)) := by
  have e1 : (p * 4 + k) / 4 = p := by omega
  have e2 : (p * 4 + k) % 4 = k := by omega
  have h16 : p * 4 + k < 16 := by omega
  have hg : (sqT q xss yss t (p * 4 + k)).getD (p * 4 + k) 0 = sqN xss yss p k t % q := by simp [sqT, h16, e1, e2]
  unfold putF
  rw [hg]
  refine List.ext_getElem (by simp [sqT]) fun j h1 h2 => ?_
  have hj : j < 16 := by simpa [sqT] using h2
  rw [List.getElem_set]
  by_cases e : p * 4 + k = j
  · subst e
    simp only [if_true, sqT, List.getElem_map, List.getElem_range, e1, e2]
    rw [if_pos (by omega), sqN, ← Int.emod_add_emod, Int.emod_add_emod, Int.add_emod_emod, Int.emod_add_emod]
  · rw [if_neg e]
    simp only [sqT, List.getElem_map, List.getElem_range]
    by_cases e3 : j < p * 4 + k
    · rw [if_pos e3, if_pos (by omega)]
    · rw [if_neg e3, if_neg (by omega)]
set_option maxHeartbeats 16000000 in
set_option maxRecDepth 100000 in
theorem impl_squares (q : Int) (gx cx gy cy n : Nat) (xss yss : List (List (List Int))) (w : World) (X : RdVs w gx n xss) (Y : RdVs w gy n yss) (hq : q = 2 ∨ q = 256) (hn : n ≤ 6) (bx : BdT q xss) (by' : BdT q yss) :
    Calls Tryz.prog 142 #[.agg #[.int .i64 q, .slice (some ⟨gx, 0, none⟩) n cx, .slice (some ⟨gy, 0, none⟩) n cy]] w fun e w' => e = .returned (.agg (cells1 (sqF q xss yss n))) ∧ Below w.heap.size w w' := by
  have HX : Hid (RdVs w gx n xss) := X
  have HY : Hid (RdVs w gy n yss) := Y
  have HBX : Hid (BdT q xss) := bx
  have HBY : Hid (BdT q yss) := by'
  have lgx := X.1
  have lgy := Y.1
  clear X Y bx by'
  have B0 : Below w.heap.size w (((w.alloc (.cells #[.int .i64 q, .slice (some ⟨gx, 0, none⟩) n cx, .slice (some ⟨gy, 0, none⟩) n cy] 163)).alloc (.cells #[.int .i64 0, .int .i64 0, .int .i64 0, .int .i64 0, .int .i64 0, .int .i64 0, .int .i64 0, .int .i64 0, .int .i64 0, .int .i64 0, .int .i64 0, .int .i64 0, .int .i64 0, .int .i64 0, .int .i64 0, .int .i64 0] 85)).alloc (.cells #[.int .i64 0, .int .i64 0, .int .i64 0, .int .i64 0, .int .i64 0, .int .i64 0, .int .i64 0, .int .i64 0, .int .i64 0, .int .i64 0, .int .i64 0, .int .i64 0, .int .i64 0, .int .i64 0, .int .i64 0, .int .i64 0] 85)) := (by repeat (first | exact Below.refl _ _ | refine Below.drew ?_ | refine below_drewN ?_ _ | refine Below.setCell ?_ (by first | omega | (simp; done) | (simp; omega)) _ | refine Below.alloc ?_ (by first | omega | (simp; done) | (simp; omega)) _))
  have R0 : Blk (((w.alloc (.cells #[.int .i64 q, .slice (some ⟨gx, 0, none⟩) n cx, .slice (some ⟨gy, 0, none⟩) n cy] 163)).alloc (.cells #[.int .i64 0, .int .i64 0, .int .i64 0, .int .i64 0, .int .i64 0, .int .i64 0, .int .i64 0, .int .i64 0, .int .i64 0, .int .i64 0, .int .i64 0, .int .i64 0, .int .i64 0, .int .i64 0, .int .i64 0, .int .i64 0] 85)).alloc (.cells #[.int .i64 0, .int .i64 0, .int .i64 0, .int .i64 0, .int .i64 0, .int .i64 0, .int .i64 0, .int .i64 0, .int .i64 0, .int .i64 0, .int .i64 0, .int .i64 0, .int .i64 0, .int .i64 0, .int .i64 0, .int .i64 0] 85)) w.heap.size 163 #[.int .i64 q, .slice (some ⟨gx, 0, none⟩) n cx, .slice (some ⟨gy, 0, none⟩) n cy] := ((Blk.new w _ _).alloc _).alloc _
  have Z0 : Blk (((w.alloc (.cells #[.int .i64 q, .slice (some ⟨gx, 0, none⟩) n cx, .slice (some ⟨gy, 0, none⟩) n cy] 163)).alloc (.cells #[.int .i64 0, .int .i64 0, .int .i64 0, .int .i64 0, .int .i64 0, .int .i64 0, .int .i64 0, .int .i64 0, .int .i64 0, .int .i64 0, .int .i64 0, .int .i64 0, .int .i64 0, .int .i64 0, .int .i64 0, .int .i64 0] 85)).alloc (.cells #[.int .i64 0, .int .i64 0, .int .i64 0, .int .i64 0, .int .i64 0, .int .i64 0, .int .i64 0, .int .i64 0, .int .i64 0, .int .i64 0, .int .i64 0, .int .i64 0, .int .i64 0, .int .i64 0, .int .i64 0, .int .i64 0] 85)) (w.heap.size + 1) 85 #[.int .i64 0, .int .i64 0, .int .i64 0, .int .i64 0, .int .i64 0, .int .i64 0, .int .i64 0, .int .i64 0, .int .i64 0, .int .i64 0, .int .i64 0, .int .i64 0, .int .i64 0, .int .i64 0, .int .i64 0, .int .i64 0] := by simpa using (Blk.new (w.alloc (.cells #[.int .i64 q, .slice (some ⟨gx, 0, none⟩) n cx, .slice (some ⟨gy, 0, none⟩) n cy] 163)) 85 #[.int .i64 0, .int .i64 0, .int .i64 0, .int .i64 0, .int .i64 0, .int .i64 0, .int .i64 0, .int .i64 0, .int .i64 0, .int .i64 0, .int .i64 0, .int .i64 0, .int .i64 0, .int .i64 0, .int .i64 0, .int .i64 0]).alloc (.cells #[.int .i64 0, .int .i64 0, .int .i64 0, .int .i64 0, .int .i64 0, .int .i64 0, .int .i64 0, .int .i64 0, .int .i64 0, .int .i64 0, .int .i64 0, .int .i64 0, .int .i64 0, .int .i64 0, .int .i64 0, .int .i64 0] 85)
  have S0 : Blk (((w.alloc (.cells #[.int .i64 q, .slice (some ⟨gx, 0, none⟩) n cx, .slice (some ⟨gy, 0, none⟩) n cy] 163)).alloc (.cells #[.int .i64 0, .int .i64 0, .int .i64 0, .int .i64 0, .int .i64 0, .int .i64 0, .int .i64 0, .int .i64 0, .int .i64 0, .int .i64 0, .int .i64 0, .int .i64 0, .int .i64 0, .int .i64 0, .int .i64 0, .int .i64 0] 85)).alloc (.cells #[.int .i64 0, .int .i64 0, .int .i64 0, .int .i64 0, .int .i64 0, .int .i64 0, .int .i64 0, .int .i64 0, .int .i64 0, .int .i64 0, .int .i64 0, .int .i64 0, .int .i64 0, .int .i64 0, .int .i64 0, .int .i64 0] 85)) (w.heap.size + 1 + 1) 85 (cells1 (sqF q xss yss 0)) := by rw [sqF_zero]; simpa using Blk.new ((w.alloc (.cells #[.int .i64 q, .slice (some ⟨gx, 0, none⟩) n cx, .slice (some ⟨gy, 0, none⟩) n cy] 163)).alloc (.cells #[.int .i64 0, .int .i64 0, .int .i64 0, .int .i64 0, .int .i64 0, .int .i64 0, .int .i64 0, .int .i64 0, .int .i64 0, .int .i64 0, .int .i64 0, .int .i64 0, .int .i64 0, .int .i64 0, .int .i64 0, .int .i64 0] 85)) 85 #[.int .i64 0, .int .i64 0, .int .i64 0, .int .i64 0, .int .i64 0, .int .i64 0, .int .i64 0, .int .i64 0, .int .i64 0, .int .i64 0, .int .i64 0, .int .i64 0, .int .i64 0, .int .i64 0, .int .i64 0, .int .i64 0]
  go_enter Tryz.func142, Tryz.ntmps142
  go_wp2
  go_loopw [13] (fun i wr => ∃ t : Nat, t ≤ n ∧ i = .int .i64 t ∧ Blk wr w.heap.size 163 #[.int .i64 q, .slice (some ⟨gx, 0, none⟩) n cx, .slice (some ⟨gy, 0, none⟩) n cy] ∧ Blk wr (w.heap.size + 1) 85 #[.int .i64 0, .int .i64 0, .int .i64 0, .int .i64 0, .int .i64 0, .int .i64 0, .int .i64 0, .int .i64 0, .int .i64 0, .int .i64 0, .int .i64 0, .int .i64 0, .int .i64 0, .int .i64 0, .int .i64 0, .int .i64 0] ∧ Blk wr (w.heap.size + 1 + 1) 85 (cells1 (sqF q xss yss t)) ∧ Below w.heap.size w wr) (fun i _ => n - (intOf i).toNat)
  case atStart => exact ⟨0, Nat.zero_le _, rfl, R0, Z0, S0, B0⟩
  case round =>
    clear R0 Z0 S0 B0
    obtain ⟨t, ht, rfl, R, Z, S, B⟩ := hrel
    by_cases hlt : t < n
    · have hrg := ((HX.out.below B).2 t hlt).2
      have HSQ : Hid (Sq (xss.getD t [])) := (HX.out.2 t hlt).1
      have HFL : Hid ((xss.getD t []).flatten.length = 16) := flat_len HSQ.out
      have HPT : Hid (∀ p k, p < 4 → k < 4 → (row4 (xss.getD t []).flatten p).getD k 0 = pt (xss.getD t []) p k) := fun p k hp hk => by rw [row4_getD _ _ _ hk, flat_getD HSQ.out p k hp hk]
      have hi' : (t : Int) < (n : Int) := by omega
      have hi0 : (0 : Int) ≤ (t : Int) := by omega
      generalize (xss.getD t []).flatten = fx at *
      have Zn := Blk.new wr 85 #[.int .i64 0, .int .i64 0, .int .i64 0, .int .i64 0, .int .i64 0, .int .i64 0, .int .i64 0, .int .i64 0, .int .i64 0, .int .i64 0, .int .i64 0, .int .i64 0, .int .i64 0, .int .i64 0, .int .i64 0, .int .i64 0]
      go_wp2_with (first | (refine wpList_load_mid rfl 85 _ rfl gx (t * 16) rfl (cells1 fx).toList _ hrg Tryz.underlying85 rfl (by rw [Array.length_toList, cells1_size, HFL.out]; kernel_rfl) ?_) | (refine wpList_store_blk rfl 85 _ _ rfl wr.heap.size (cells1 fx) rfl rfl Zn (by rw [cells1_size, HFL.out]; rfl) (by rw [cells1_size, HFL.out]; kernel_rfl) (cells1_one _) ?_; intro w2 X2 O2) | (refine wpList_load_blk rfl 85 _ rfl wr.heap.size rfl X2 Tryz.underlying85 rfl (by rw [cells1_size, HFL.out]; kernel_rfl) ?_))
      have O2' : Off [wr.heap.size] wr w2 := ((Off.refl _ _).alloc _).trans O2
      have z2 := O2'.size
      have zB := B.size
      have zS := S.lt
      have R2 := R.off O2' (by simp; omega)
      have Z2 := Z.off O2' (by simp; omega)
      have S2 := S.off O2' (by simp; omega)
      have B2 : Below w.heap.size w w2 := B.trans (O2'.toBelow zB (by simp; omega))
      rw [← sqT_zero] at S2
      have S2' : Blk w2 (w.heap.size + 1 + 1) 85 (cells1 (sqT q xss yss t (0 * 4))) := S2
      clear hrg Zn O2 O2' X2 R Z S B S2 z2 zB zS
      go_loopw [19] (fun i wr => ∃ p : Nat, p ≤ 4 ∧ i = .int .i64 p ∧ Blk wr w.heap.size 163 #[.int .i64 q, .slice (some ⟨gx, 0, none⟩) n cx, .slice (some ⟨gy, 0, none⟩) n cy] ∧ Blk wr (w.heap.size + 1) 85 #[.int .i64 0, .int .i64 0, .int .i64 0, .int .i64 0, .int .i64 0, .int .i64 0, .int .i64 0, .int .i64 0, .int .i64 0, .int .i64 0, .int .i64 0, .int .i64 0, .int .i64 0, .int .i64 0, .int .i64 0, .int .i64 0] ∧ Blk wr (w.heap.size + 1 + 1) 85 (cells1 (sqT q xss yss t (p * 4))) ∧ Below w.heap.size w wr) (fun i _ => 4 - (intOf i).toNat)
      case atStart => exact ⟨0, Nat.zero_le _, rfl, R2, Z2, S2', B2⟩
      case round =>
        clear R2 Z2 S2' B2
        obtain ⟨p, hp, rfl, R, Z, S, B⟩ := hrel
        by_cases hpl : p < 4
        · have hidx := run_rowF HFL.out p hpl
          have hip : (p : Int) < 4 := by omega
          have hip0 : (0 : Int) ≤ (p : Int) := by omega
          have HP4 : Hid (p < 4) := hpl
          have HRL : Hid ((row4 fx p).length = 4) := rfl
          have HR : Hid (∀ k, k < 4 → (row4 fx p).getD k 0 = pt (xss.getD t []) p k) := fun k hk => HPT.out p k HP4.out hk
          generalize row4 fx p = rx at *
          have Vn := Blk.new wr 83 #[.int .i64 0, .int .i64 0, .int .i64 0, .int .i64 0]
          go_wp2_with (first | (refine wpList_store_blk rfl 83 _ _ rfl wr.heap.size (cells1 rx) rfl rfl Vn (by rw [cells1_size, HRL.out]; rfl) (by rw [cells1_size, HRL.out]; kernel_rfl) (cells1_one _) ?_; intro w3 V3 O3) | (refine wpList_load_blk rfl 83 _ rfl wr.heap.size rfl V3 Tryz.underlying83 rfl (by rw [cells1_size, HRL.out]; kernel_rfl) ?_))
          have O3' : Off [wr.heap.size] wr w3 := ((Off.refl _ _).alloc _).trans O3
          have z3 := O3'.size
          have zB := B.size
          have zS := S.lt
          have R3 := R.off O3' (by simp; omega)
          have Z3 := Z.off O3' (by simp; omega)
          have S3 : Blk w3 (w.heap.size + 1 + 1) 85 (cells1 (sqT q xss yss t (p * 4 + 0))) := S.off O3' (by simp; omega)
          have B3 : Below w.heap.size w w3 := B.trans (O3'.toBelow zB (by simp; omega))
          clear Vn O3 O3' V3 R Z S B z3 zB zS hidx
          go_loopw [24] (fun i wr => ∃ k : Nat, k ≤ 4 ∧ i = .int .i64 k ∧ Blk wr w.heap.size 163 #[.int .i64 q, .slice (some ⟨gx, 0, none⟩) n cx, .slice (some ⟨gy, 0, none⟩) n cy] ∧ Blk wr (w.heap.size + 1) 85 #[.int .i64 0, .int .i64 0, .int .i64 0, .int .i64 0, .int .i64 0, .int .i64 0, .int .i64 0, .int .i64 0, .int .i64 0, .int .i64 0, .int .i64 0, .int .i64 0, .int .i64 0, .int .i64 0, .int .i64 0, .int .i64 0] ∧ Blk wr (w.heap.size + 1 + 1) 85 (cells1 (sqT q xss yss t (p * 4 + k))) ∧ Below w.heap.size w wr) (fun i _ => 4 - (intOf i).toNat)
          case atStart => exact ⟨0, Nat.zero_le _, rfl, R3, Z3, S3, B3⟩
          case round =>
            clear R3 Z3 S3 B3
            obtain ⟨k, hk, rfl, R, Z, S, B⟩ := hrel
            by_cases hkl : k < 4
            · have hone := run_oneF HRL.out k hkl
              rw [HR.out k hkl] at hone
              have hik : (k : Int) < 4 := by omega
              have hik0 : (0 : Int) ≤ (k : Int) := by omega
              have c0 := (HY.out.below B).one t p k hlt HP4.out hkl
              have HXB : Hid (0 ≤ pt (xss.getD t []) p k ∧ pt (xss.getD t []) p k < q) := HBX.out t p k
              have HYB : Hid (0 ≤ pt (yss.getD t []) p k ∧ pt (yss.getD t []) p k < q) := HBY.out t p k
              have HPU : Hid (putF q (sqT q xss yss t (p * 4 + k)) p k (pt (xss.getD t []) p k * pt (yss.getD t []) p k % q) = sqT q xss yss t (p * 4 + (k + 1))) := sqT_put q xss yss t p k HP4.out hkl
              have HO16 : Hid (Ok16 q (sqT q xss yss t (p * 4 + k))) := sqT_ok hq xss yss t (p * 4 + k)
              have HQ : Hid (q = 2 ∨ q = 256) := hq
              generalize pt (xss.getD t []) p k = x at *
              generalize pt (yss.getD t []) p k = y at *
              generalize sqT q xss yss t (p * 4 + k) = fs at *
              generalize hf2 : sqT q xss yss t (p * 4 + (k + 1)) = fs2 at *
              have HF2 : Hid (sqT q xss yss t (p * 4 + (k + 1)) = fs2) := hf2
              clear hf2
              have fd := field_1
              have Rd := R.drew
              have Zd := Z.drew
              have Sd := S.drew
              have Bd := B.drew
              have hSd : (∀ o, wr.drew.cell? ⟨w.heap.size, o, none⟩ = (#[.int .i64 q, .slice (some ⟨gx, 0, none⟩) n cx, .slice (some ⟨gy, 0, none⟩) n cy] : Array Value)[o]?) ∧ wr.drew.cell? ⟨gy, t * 16 + p * 4 + k, none⟩ = some (.int .i64 y) := ⟨Rd.at.1, c0⟩
              clear R Z S B c0
              go_wp2_with fail
              have tk0 : True := trivial
              go_region_held3 (fun V => (∀ o, V.cell? ⟨w.heap.size, o, none⟩ = (#[.int .i64 q, .slice (some ⟨gx, 0, none⟩) n cx, .slice (some ⟨gy, 0, none⟩) n cy] : Array Value)[o]?) ∧ V.cell? ⟨gy, t * 16 + p * 4 + k, none⟩ = some (.int .i64 y)) (first | exact hSd | exact hS7 | exact hS8) (first | (go_at_call 151; have _t := tk0; clear _t tk0; refine (impl_MulRing_yes q x y _ ⟨HQ.out, HXB.out.1, HXB.out.2, HYB.out.1, HYB.out.2⟩).mono ?_; rintro e w7 ⟨rfl, hb7⟩; have R7 := Rd.keep hb7; have Z7 := Zd.keep hb7; have S7 := Sd.keep hb7; have B7 := Bd.trans (hb7.mono Bd.size); have hS7 := And.intro R7.at.1 ((hb7.cell (p := ⟨gy, t * 16 + p * 4 + k, none⟩) (by have := Bd.size; simp at this ⊢; omega)).trans hSd.2)) | (go_at_call 150; refine (impl_put q (w.heap.size + 1 + 1) fs p k (x * y % q) _ S7 HO16.out HQ.out HP4.out (by omega) ⟨Int.emod_nonneg _ (by have := HQ.out; omega), Int.emod_lt_of_pos _ (by have := HQ.out; omega)⟩).mono ?_; rintro e w8 ⟨rfl, S8, o8⟩; have hS8 := And.intro (R7.off o8 (by simp; omega)).at.1 (((o8.at gy (by have := B7.size; omega) (by simp; omega)).1 _).trans hS7.2)))
              have R8 := R7.off o8 (by simp; omega)
              have Z8 := Z7.off o8 (by simp)
              have B8 := B7.trans (o8.toBelow B7.size (by simp; omega))
              rw [HPU.out] at S8
              clear hSd hS7 hS8 R7 Z7 S7 B7 Rd Zd Sd Bd o8 hb7
              go_wp2
              go_roundw
              case rel => exact ⟨k + 1, by omega, by go_num, R8, Z8, by rw [HF2.out]; exact S8, B8⟩
              case measure => simp [intOf]; omega
            · obtain rfl : k = 4 := by omega
              go_wp2
              go_roundw
              case rel => exact ⟨p + 1, by omega, by go_num, R, Z, by rw [show (p + 1) * 4 = p * 4 + 4 by omega]; exact S, B⟩
              case measure => simp [intOf]; omega
        · obtain rfl : p = 4 := by omega
          rw [show 4 * 4 = 16 from rfl, sqT_all] at S
          go_wp2
          go_roundw
          case rel => exact ⟨t + 1, by omega, by go_num, R, Z, S, B⟩
          case measure => simp [intOf]; omega
    · obtain rfl : t = n := by omega
      have HF : Hid ((sqF q xss yss t).length = 16) := (sqF_ok hq xss yss t).1
      generalize hfs : sqF q xss yss t = fs at *
      have HFS : Hid (sqF q xss yss t = fs) := hfs
      clear hfs
      go_wp2_with (first | (refine wpList_load_blk rfl 85 _ rfl (w.heap.size + 1 + 1) rfl S Tryz.underlying85 rfl (by rw [cells1_size, HF.out]; kernel_rfl) ?_) | (refine wpList_store_blk rfl 85 _ _ rfl (w.heap.size + 1) (cells1 fs) rfl rfl Z (by rw [cells1_size, HF.out]; rfl) (by rw [cells1_size, HF.out]; kernel_rfl) (cells1_one _) ?_; intro w9 Z9 O9))
      exact bodyPost_ret (v := .agg (cells1 fs)) (results_blk Tryz.results142 rfl Z9 Tryz.underlying85 rfl (by rw [cells1_size, HF.out]; kernel_rfl)) rfl ⟨by rw [HFS.out], B.trans (O9.toBelow B.size (by simp))⟩
end Go.Proofs.YtepobckhfodngaoGreat
