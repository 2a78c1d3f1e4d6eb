/-
  Contracts of the sources out of which the laws draw: whatever the bytes are, what is drawn lies in its bounds, and nothing that was there has turned but the source itself.
-/
import Derived.Test.YtepobckhfodngabGreatMem
import Derived.Deep.QuietTactic
import Derived.BigQuiet
import Derived.WalkSpells
namespace Go.Proofs.YtepobckhfodngabGreat
open Go.ChangeShapes Go.WideShapes Go.ChangeAt Go.RowKit
set_option linter.unusedVariables false

/-- block b is a source over the bytes zs, read up to place at -/
structure Src (w : World) (b : Nat) (a : Option Addr) (cap : Nat) (zs : List Int) (k : Nat) : Prop where
  blk : Blk w b 110 #[.slice a zs.length cap, .int .i64 k]
  len : zs.length ≤ 1048576
  bytes : ∀ i, 0 ≤ zs.getD i 0 ∧ zs.getD i 0 ≤ 255
  cells : zs ≠ [] → ∃ g off, a = some ⟨g, off, none⟩ ∧ g < b ∧ g < w.heap.size ∧ ∀ i, i < zs.length → w.cell? ⟨g, off + i, none⟩ = some (.int .u8 (zs.getD i 0))

theorem Src.keep {w w' : World} {b : Nat} {a : Option Addr} {cap : Nat} {zs : List Int} {k : Nat} (h : Src w b a cap zs k) (hb : Below w.heap.size w w') : Src w' b a cap zs k :=
  ⟨h.blk.keep hb, h.len, h.bytes, fun hz => by
    obtain ⟨g, off, ha, hn, hl, hc⟩ := h.cells hz
    exact ⟨g, off, ha, hn, Nat.lt_of_lt_of_le hl hb.size, fun i hi => (hb.cell (p := ⟨g, off + i, none⟩) hl).trans (hc i hi)⟩⟩
theorem Src.alloc {w : World} {b : Nat} {a : Option Addr} {cap : Nat} {zs : List Int} {k : Nat} (h : Src w b a cap zs k) (o : Obj) : Src (w.alloc o) b a cap zs k := h.keep ((Below.refl _ _).alloc (Nat.le_refl _) _)
theorem Src.step {w : World} {b : Nat} {a : Option Addr} {cap : Nat} {zs : List Int} {k : Nat} (h : Src w b a cap zs k) (m : Nat) : Src (w.setCell ⟨b, 1, none⟩ (.int .i64 m)) b a cap zs m := by
  have hb := h.blk.set 1 (.int .i64 m)
  refine ⟨by simpa using hb, h.len, h.bytes, fun hz => ?_⟩
  obtain ⟨g, off, ha, hn, hl, hc⟩ := h.cells hz
  exact ⟨g, off, ha, hn, by simpa [World.setCell] using hl, fun i hi => (World.cell?_setCell_other _ _ _ _ (by intro e; exact Nat.ne_of_lt hn (congrArg Addr.block e).symm)).trans (hc i hi)⟩

theorem Src.drewN {w : World} {b : Nat} {a : Option Addr} {cap : Nat} {zs : List Int} {k : Nat} (h : Src w b a cap zs k) (m : Nat) : Src (w.drewN m) b a cap zs k := h.keep (below_drewN (Below.refl _ _) m)
theorem Off.drewN {bs : List Nat} {w w' : World} (h : Off bs w w') (m : Nat) : Off bs w (w'.drewN m) := h.trans (Off.ofBelow (below_drewN (Below.refl _ _) m))
theorem Src.off {w w' : World} {b : Nat} {a : Option Addr} {cap : Nat} {zs : List Int} {k : Nat} {bs : List Nat} (h : Src w b a cap zs k) (ho : Off bs w w') (hb : ∀ y ∈ bs, b < y) : Src w' b a cap zs k :=
  ⟨h.blk.off ho (fun hm => Nat.lt_irrefl _ (hb b hm)), h.len, h.bytes, fun hz => by
    obtain ⟨g, off, ha, hn, hl, hc⟩ := h.cells hz
    exact ⟨g, off, ha, hn, Nat.lt_of_lt_of_le hl ho.size, fun i hi => ((ho.at g hl (fun hm => by have := hb g hm; omega)).1 (off + i)).trans (hc i hi)⟩⟩
/-- behind what was done to b, something is done to what was made since -/
theorem Off.fresh {bs cs : List Nat} {w w1 w2 : World} (h : Off bs w w1) (k : Off cs w1 w2) (hc : ∀ y ∈ cs, w.heap.size ≤ y) : Off bs w w2 :=
  ⟨k.os.trans h.os, k.tape.trans h.tape, k.output.trans h.output, Nat.le_trans h.size k.size, fun i hi hn => (k.block i (Nat.lt_of_lt_of_le hi h.size) (fun hm => by have := hc i hm; omega)).trans (h.block i hi hn)⟩
/-- what is drawn out of n -/
def InB (n r : Int) : Prop := (1 ≤ n → 0 ≤ r ∧ r < n) ∧ (n < 1 → r = 0)
theorem InB.mod {n v : Int} (h : 1 ≤ n) (hv : 0 ≤ v) : InB n (v % n) := ⟨fun _ => ⟨Int.emod_nonneg _ (by omega), Int.emod_lt_of_pos _ (by omega)⟩, fun k => by omega⟩
set_option maxHeartbeats 1000000 in
theorem spec_l1Next (b : Nat) (a : Option Addr) (cap : Nat) (zs : List Int) (k : Nat) (n : Int) (w : World) (hs : Src w b a cap zs k) (hk : k ≤ 1073741824) (hn : n ≤ 1073741824) :
    Calls Tryz.prog 29 #[.pointer (some ⟨b, 0, none⟩), .int .i64 n] w fun e w' => ∃ r : Int, e = .returned (.int .i64 r) ∧ InB n r ∧ Src w' b a cap zs (k + 1) ∧ Off [b] w w' := by
  have c := hs.blk.at
  have c0 : w.cell? ⟨b, 0, none⟩ = some (.slice a zs.length cap) := by rw [c.1]; rfl
  have c1 : w.cell? ⟨b, 1, none⟩ = some (.int .i64 k) := by rw [c.1]; rfl
  have f1 : w.frozen? ⟨b, 1, none⟩ = false := c.2 1
  clear c
  have s1 := hs.step (k + 1)
  have o1 : Off [b] w (w.setCell ⟨b, 1, none⟩ (.int .i64 ((k + 1 : Nat) : Int))) := (Off.refl _ _).setCell _ _ (.inl (by simp))
  have e1 : ((k + 1 : Nat) : Int) = (k : Int) + 1 := by omega
  rw [e1] at s1 o1
  clear e1
  by_cases h1 : n < 1
  · go_enter Tryz.func29, Tryz.ntmps29
    go_wp2
    go_ret
    exact ⟨0, rfl, ⟨fun h => by omega, fun _ => rfl⟩, s1, o1⟩
  · by_cases hz : zs = []
    · subst hz
      simp only [List.length_nil] at *
      go_enter Tryz.func29, Tryz.ntmps29
      go_wp2
      go_ret
      exact ⟨_, rfl, InB.mod (by omega) (by omega), s1, o1⟩
    · obtain ⟨g, off, rfl, hgb', hgl, hc⟩ := hs.cells hz
      have hgb : g ≠ b := Nat.ne_of_lt hgb'
      clear hgb'
      have hl0 : 0 < zs.length := List.length_pos_iff.2 hz
      have hl1 := hs.len
      have hne : ((zs.length : Int) == 0) = false := by simp; omega
      have i1 : k % zs.length < zs.length := Nat.mod_lt _ hl0
      have i2 : (k + 1) % zs.length < zs.length := Nat.mod_lt _ hl0
      have i3 : ((k : Int) + 1) % (zs.length : Int) < (zs.length : Int) := Int.emod_lt_of_pos _ (by omega)
      have i4 : 0 ≤ ((k : Int) + 1) % (zs.length : Int) := Int.emod_nonneg _ (by omega)
      have d1 := hc (k % zs.length) i1
      have d2 := hc ((k + 1) % zs.length) i2
      have r1 := hs.bytes (k % zs.length)
      have r2 := hs.bytes ((k + 1) % zs.length)
      clear hc hs
      generalize zs.getD (k % zs.length) 0 = y1 at *
      generalize zs.getD ((k + 1) % zs.length) 0 = y2 at *
      have q1 : 0 ≤ (k : Int) / (zs.length : Int) := Int.ediv_nonneg (by omega) (by omega)
      have q2 : (k : Int) / (zs.length : Int) ≤ k := Int.ediv_le_self _ (by omega)
      by_cases h2 : n ≤ 200
      · go_enter Tryz.func29, Tryz.ntmps29
        go_wp2
        go_quiet (fail)
        go_wp2
        go_ret
        refine ⟨_, rfl, ?_, s1.drewN nq, o1.drewN nq⟩
        exact InB.mod (by omega) (by omega)
      · go_enter Tryz.func29, Tryz.ntmps29
        go_wp2
        go_quiet (fail)
        go_wp2
        go_quiet (fail)
        go_wp2
        go_ret
        refine ⟨_, rfl, ?_, s1.drewN _, o1.drewN _⟩
        exact InB.mod (by omega) (by omega)
/-- a list of numbers written out, laid in a new block -/
theorem Ints.lit (w : World) (cs : List Value) (xs : List Int) (n : Nat) (h : cs = xs.map (Value.int .i64)) (hn : xs.length = n) (hm : n ≤ 1000) : Ints (w.alloc (.cells cs.toArray 2)) (.slice (some ⟨w.heap.size, 0, none⟩) n n) xs [w.heap.size] := by
  subst hn
  subst h
  have := Own.made w 2 1 (xs.map (Value.int .i64)).toArray xs.length (by unfold maxLen; omega) (by simp)
  exact ⟨_, by simpa using this⟩
theorem spec_l1Chance (b : Nat) (a : Option Addr) (cap : Nat) (zs : List Int) (k : Nat) (n : Int) (w : World) (hs : Src w b a cap zs k) (hk : k ≤ 1073741824) (hn : n ≤ 1073741824) :
    Calls Tryz.prog 26 #[.pointer (some ⟨b, 0, none⟩), .int .i64 n] w fun e w' => ∃ r : Bool, e = .returned (.bool r) ∧ Src w' b a cap zs (k + 1) ∧ Off [b] w w' := by
  go_enter Tryz.func26, Tryz.ntmps26
  go_wp2_with fail
  refine (spec_l1Next b a cap zs k n w hs hk hn).mono ?_
  rintro e w1 ⟨r, rfl, hr, s1, o1⟩
  go_wp2
  go_ret
  exact ⟨_, rfl, s1, o1⟩
theorem spec_l1Source (a : Option Addr) (cap : Nat) (zs : List Int) (w : World) (hr : Reads w .u8 (.slice a zs.length cap) zs) (hl : zs.length ≤ 1048576) (hb : ∀ i, 0 ≤ zs.getD i 0 ∧ zs.getD i 0 ≤ 255) :
    Calls Tryz.prog 24 #[.slice a zs.length cap] w fun e w' => e = .returned (.pointer (some ⟨w.heap.size, 0, none⟩)) ∧ Src w' w.heap.size a cap zs 0 ∧ Below w.heap.size w w' := by
  have s0 : Src (w.alloc (.cells #[.slice a zs.length cap, .int .i64 0] 110)) w.heap.size a cap zs 0 := by
    refine ⟨Blk.new w _ _, hl, hb, fun hz => ?_⟩
    obtain ⟨a', cap', hv, _, hc⟩ := hr
    simp at hv
    obtain ⟨rfl, rfl⟩ := hv
    obtain ⟨g, off, ha, hlt, hcell⟩ := hc hz
    exact ⟨g, off, ha, by omega, by simp; omega, fun i hi => (((Below.refl w.heap.size w).alloc (Nat.le_refl _) _).cell (p := ⟨g, off + i, none⟩) hlt).trans (hcell i hi)⟩
  go_enter Tryz.func24, Tryz.ntmps24
  go_wp2
  go_ret
  exact ⟨rfl, s0, (by repeat (first | exact Below.refl _ _ | refine Below.drew ?_ | refine below_drewN ?_ _ | refine Below.setCell ?_ (by first | omega | (simp; done) | (simp; omega)) _ | refine Below.alloc ?_ (by first | omega | (simp; done) | (simp; omega)) _))⟩
set_option maxHeartbeats 400000 in
theorem spec_l1Pick (b : Nat) (a : Option Addr) (cap : Nat) (zs : List Int) (k : Nat) (v : Value) (xs : List Int) (bs : List Nat) (w : World) (hs : Src w b a cap zs k) (hk : k ≤ 1073741824) (hv : Ints w v xs bs) (hx : xs ≠ []) (hx' : xs.length ≤ 1000) (hn : b ∉ bs) :
    Calls Tryz.prog 56 #[.pointer (some ⟨b, 0, none⟩), v] w fun e w' => ∃ r : Int, e = .returned (.int .i64 r) ∧ r ∈ xs ∧ Src w' b a cap zs (k + 1) ∧ Off [b] w w' := by
  have hl0 : 0 < xs.length := List.length_pos_iff.2 hx
  obtain ⟨te, hv⟩ := hv
  obtain ⟨g, c, rfl, rfl, hc1, hc2⟩ := Own.shape hv hl0
  go_enter Tryz.func56, Tryz.ntmps56
  go_wp2_with fail
  refine (spec_l1Next b a cap zs k _ _ hs hk (by omega)).mono ?_
  rintro e w1 ⟨r, rfl, hr, hs1, ho1⟩
  obtain ⟨r1, r2⟩ := hr.1 (by omega)
  have hv1 := Own.off hv ho1 (by simpa using fun e => hn (by simp [e]))
  obtain ⟨m, rfl⟩ := Int.eq_ofNat_of_zero_le r1
  have hm : m < xs.length := by omega
  have c0 : w1.cell? ⟨g, m, none⟩ = some (.int .i64 xs[m]) := by
    rw [Own.cell hv1 m (by omega)]; simp [hm]
  have hmem : Hid (xs[m] ∈ xs) := List.getElem_mem hm
  generalize xs[m] = y at *
  go_wp2
  go_ret
  exact ⟨y, rfl, hmem.out, hs1, ho1⟩
end Go.Proofs.YtepobckhfodngabGreat
