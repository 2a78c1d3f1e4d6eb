/-
  The structs of the laws as plain shapes; reading and owning them; the contracts of the laws' helpers on them. Made by types.py.
-/
import Derived.Test.YtepobckhfodngaoGreatMat
import Derived.Deep.MidRow
namespace Go.Proofs.YtepobckhfodngaoGreat
open Go.ChangeShapes Go.WideShapes Go.ChangeAt Go.RowKit
set_option linter.unusedVariables false

def Dj (a b : List Nat) : Prop := ∀ g ∈ a, g ∉ b
theorem all_app {p : Nat → Prop} {a b : List Nat} (h : ∀ y ∈ a, p y) (k : ∀ y ∈ b, p y) : ∀ y ∈ a ++ b, p y := fun y hy => (List.mem_append.1 hy).elim (h y) (k y)
theorem Dj.symm {a b : List Nat} (h : Dj a b) : Dj b a := fun g hg hm => h g hm hg
theorem Reads.shp {w : World} {k : IntKind} {v : Value} {xs : List Int} (h : Reads w k v xs) : ∃ p c, v = .slice p xs.length c := by obtain ⟨a, c, e, _⟩ := h; exact ⟨a, c, e⟩
theorem Reads.le {w : World} {k : IntKind} {v : Value} {xs : List Int} (h : Reads w k v xs) : xs.length ≤ maxLen := by obtain ⟨a, c, e, hm, _⟩ := h; exact hm
theorem ReadsM.shp {w : World} {v : Value} {xs : List (List Int)} (h : ReadsM w v xs) : ∃ p c, v = .slice p xs.length c := by obtain ⟨a, c, e, _⟩ := h; exact ⟨a, c, e⟩
theorem Mat.drew {bs : List Nat} {w : World} {v : Value} {xs : List (List Int)} (h : Mat w v xs bs) : Mat w.drew v xs bs := h.keep (Below.refl _ _).drew
theorem ReadsM.lane {w : World} {p : Option Addr} {c : Nat} {xss : List (List Int)} (h : ReadsM w (.slice p xss.length c) xss) (j : Nat) (hj : j < xss.length) :
    ∃ b off q d, p = some ⟨b, off, none⟩ ∧ b < w.heap.size ∧ w.cell? ⟨b, off + j, none⟩ = some (.slice q (xss.getD j []).length d) ∧ Reads w .i64 (.slice q (xss.getD j []).length d) (xss.getD j []) := by
  obtain ⟨a, cap, e, _, hA⟩ := h
  simp at e
  obtain ⟨rfl, rfl⟩ := e
  obtain ⟨b, off, rfl, hlt, hc⟩ := hA (by intro h; rw [h] at hj; simp at hj)
  obtain ⟨q, d, h1, h2⟩ := hc j hj
  exact ⟨b, off, q, d, rfl, hlt, h1, h2⟩
theorem Reads.one {w : World} {k : IntKind} {p : Option Addr} {n c : Nat} {xs : List Int} (h : Reads w k (.slice p n c) xs) (j : Nat) (hj : j < xs.length) :
    ∃ b off, p = some ⟨b, off, none⟩ ∧ b < w.heap.size ∧ w.cell? ⟨b, off + j, none⟩ = some (.int k (xs.getD j 0)) := by
  obtain ⟨a, cap, e, _, hA⟩ := h
  simp at e
  obtain ⟨rfl, _, rfl⟩ := e
  obtain ⟨b, off, rfl, hlt, hc⟩ := hA (by intro h; rw [h] at hj; simp at hj)
  exact ⟨b, off, rfl, hlt, hc j hj⟩
/-- the world at a call, forgotten but for what is said of it -/
theorem Calls.at {P : Program} {f : Nat} {args : Array Value} {W : World} {Q : Ending → World → Prop} {F : World → Prop} (h : F W) (k : ∀ w, F w → Calls P f args w Q) : Calls P f args W Q := k W h
theorem bodyPost_gen {P : Program} {fn : Func} {R : Ending → World → Prop} {e : Exit} {a : Act} {W : World} {F : World → Prop} (h : F W) (k : ∀ w, F w → bodyPost P fn R e a w) : bodyPost P fn R e a W := k W h
/-- a whole struct read out of its box -/
theorem Blk.lv {w : World} {b : Nat} {T : TypeId} {cs : Array Value} (h : Blk w b T cs) {d : TypeDesc} (hu : Tryz.prog.underlying T = some d) (hd : d.isRow = true) (hi : (Tryz.prog.info? T).map (·.size) = some cs.size) :
    (loadVar T ⟨b, 0, none⟩).run Tryz.prog w = .ok (.agg cs) w := by
  have hc : w.rangeAt b 0 cs.toList := fun j v hv => by
    rw [Nat.zero_add, h.at.1]
    simpa using hv
  have := run_loadVar_mid (P := Tryz.prog) w b 0 T cs.toList d hc hu hd (by simpa using hi)
  simpa using this
theorem Blk.of_eq {w : World} {b : Nat} {T : TypeId} {cs ds : Array Value} (h : Blk w b T cs) (e : cs = ds) : Blk w b T ds := e ▸ h

theorem szInt64SS_fit (v : Value) (xss : List (List Int)) (left : Int) (w : World) (hv : ReadsM w v xss) (h0 : 0 ≤ left) (h' : left ≤ 1048576) (h : (tot xss : Int) ≤ left) :
    Calls Tryz.prog 29 #[v, .int .i64 left] w fun e w' => e = .returned (.int .i64 (left - (tot xss : Nat))) ∧ Below w.heap.size w w' := by
  refine (szInt64SS_at v xss left w hv h0 h').mono ?_
  rintro e w' ⟨rfl, rfl⟩
  exact ⟨by rw [szR_yes h], Below.refl _ _⟩
theorem szInt64SS_over (v : Value) (xss : List (List Int)) (left : Int) (w : World) (hv : ReadsM w v xss) (h0 : 0 ≤ left) (h' : left ≤ 1048576) (h : left < (tot xss : Int)) :
    Calls Tryz.prog 29 #[v, .int .i64 left] w fun e w' => e = .returned (.int .i64 (-1)) ∧ Below w.heap.size w w' := by
  refine (szInt64SS_at v xss left w hv h0 h').mono ?_
  rintro e w' ⟨rfl, rfl⟩
  exact ⟨by rw [szR_no h], Below.refl _ _⟩
theorem toInt64S_ow (v : Value) (xs : List Int) (w : World) (hv : Reads w .i64 v xs) (hl : xs.length ≤ 1048576) :
    Calls Tryz.prog 35 #[v] w fun e w' => ∃ u b0, e = .returned u ∧ Ints w' u xs b0 ∧ (∀ y ∈ b0, w.heap.size ≤ y) ∧ Below w.heap.size w w' := by
  refine (toInt64S_all v xs w hv hl).mono ?_
  rintro e w' ⟨g, rfl, h, hg, hb⟩
  exact ⟨_, _, rfl, h, by simp; omega, hb⟩
theorem toInt64SS_ow (v : Value) (xs : List (List Int)) (w : World) (hv : ReadsM w v xs) (hl : tot xs ≤ 1048576) :
    Calls Tryz.prog 36 #[v] w fun e w' => ∃ u b0, e = .returned u ∧ Mat w' u xs b0 ∧ (∀ y ∈ b0, w.heap.size ≤ y) ∧ Below w.heap.size w w' := by
  refine (toInt64SS_all v xs w hv hl).mono ?_
  rintro e w' ⟨g, bs, rfl, h, hg, hb⟩
  exact ⟨_, _, rfl, h, hg, hb⟩
theorem eqInt64S_rd (v u : Value) (xs : List Int) (w : World) (hv : Reads w .i64 v xs) (hu : Reads w .i64 u xs) :
    Calls Tryz.prog 45 #[v, u] w fun e w' => e = .returned (.bool true) ∧ Below w.heap.size w w' := eqInt64S_same v u xs w hv hu
theorem eqInt64SS_rd (v u : Value) (xs : List (List Int)) (w : World) (hv : ReadsM w v xs) (hu : ReadsM w u xs) :
    Calls Tryz.prog 46 #[v, u] w fun e w' => e = .returned (.bool true) ∧ Below w.heap.size w w' := eqInt64SS_same v u xs w hv hu
theorem sl_le_tot (xss : List (List Int)) : sl xss ≤ tot xss := by rw [tot_eq]; omega
theorem markInt64S_ow (v : Value) (x : List Int) (b0 : List Nat) (k : Int) (w : World) (hv : Ints w v x b0) (hk : 0 ≤ k) (hk' : k + (x.length : Nat) ≤ 536870912) :
    Calls Tryz.prog 50 #[v, .int .i64 k] w fun e w' => e = .returned (.int .i64 (k + (x.length : Nat))) ∧ Ints w' v (marks k x.length) b0 ∧ Off b0 w w' :=
  markInt64S_all v x b0 k w hv hk (by omega) (by omega)
theorem markInt64SS_ow (v : Value) (x : List (List Int)) (b0 : List Nat) (k : Int) (w : World) (hv : Mat w v x b0) (hk : 0 ≤ k) (hk' : k + (sl x : Nat) ≤ 536870912) :
    Calls Tryz.prog 51 #[v, .int .i64 k] w fun e w' => e = .returned (.int .i64 (k + (sl x : Nat))) ∧ Mat w' v (marksM k x) b0 ∧ Off b0 w w' :=
  markInt64SS_all v k x b0 w hv hk (by omega) (by omega)
theorem heldInt64S_rd (v : Value) (x : List Int) (k : Int) (w : World) (hv : Reads w .i64 v (marks k x.length)) (hk : 0 ≤ k) (hk' : k + (x.length : Nat) ≤ 536870912) :
    Calls Tryz.prog 79 #[v, .int .i64 k] w fun e w' => e = .returned (.int .i64 (k + (x.length : Nat))) ∧ Below w.heap.size w w' :=
  heldInt64S_all v k x.length w hv hk (by omega) (by omega)
theorem heldInt64SS_rd (v : Value) (x : List (List Int)) (k : Int) (w : World) (hv : ReadsM w v (marksM k x)) (hk : 0 ≤ k) (hk' : k + (sl x : Nat) ≤ 536870912) :
    Calls Tryz.prog 77 #[v, .int .i64 k] w fun e w' => e = .returned (.int .i64 (k + (sl x : Nat))) ∧ Below w.heap.size w w' :=
  heldInt64SS_all v k x w hv hk (by omega) (by omega)
theorem szInt64S_fit (v : Value) (x : List Int) (left : Int) (w : World) (hv : Reads w .i64 v x) (h0 : 0 ≤ left) (h' : left ≤ 1048576) (h : (x.length : Int) ≤ left) :
    Calls Tryz.prog 28 #[v, .int .i64 left] w fun e w' => e = .returned (.int .i64 (left - (x.length : Nat))) ∧ Below w.heap.size w w' := by
  obtain ⟨a, cap, rfl, _⟩ := hv
  refine (szInt64S_yes a x.length cap left w h h').mono ?_
  rintro e w' ⟨rfl, rfl⟩
  exact ⟨rfl, Below.refl _ _⟩
theorem szInt64S_over (v : Value) (x : List Int) (left : Int) (w : World) (hv : Reads w .i64 v x) (h0 : 0 ≤ left) (h' : left ≤ 1048576) (h : left < (x.length : Int)) :
    Calls Tryz.prog 28 #[v, .int .i64 left] w fun e w' => e = .returned (.int .i64 (-1)) ∧ Below w.heap.size w w' := by
  obtain ⟨a, cap, rfl, hm, _⟩ := hv
  refine (szInt64S_no a x.length cap left w hm h h0 h').mono ?_
  rintro e w' ⟨rfl, rfl⟩
  exact ⟨rfl, Below.refl _ _⟩
-- IntResult
/-- the plain shape of IntResult -/
structure MIntResult where
  xCode : Int
  xValue : Int
def RdIntResult (w : World) (v : Value) (x : MIntResult) : Prop := v = .agg #[.int .i64 x.xCode, .int .i64 x.xValue]
-- IntsResult
/-- the plain shape of IntsResult -/
structure MIntsResult where
  xCode : Int
  xList : List Int
def RdIntsResult (w : World) (v : Value) (x : MIntsResult) : Prop := ∃ p0 c0, v = .agg #[.int .i64 x.xCode, .slice p0 x.xList.length c0] ∧ Reads w .i64 (.slice p0 x.xList.length c0) x.xList
def OwIntsResult (w : World) (v : Value) (x : MIntsResult) (b0 : List Nat) : Prop := ∃ p0 c0, v = .agg #[.int .i64 x.xCode, .slice p0 x.xList.length c0] ∧ Ints w (.slice p0 x.xList.length c0) x.xList b0
theorem RdIntsResult.below {w w' : World} {v : Value} {x : MIntsResult} (h : RdIntsResult w v x) (hb : Below w.heap.size w w') : RdIntsResult w' v x := by
  obtain ⟨p0, c0, e, h0⟩ := h
  exact ⟨p0, c0, e, h0.below hb⟩
theorem OwIntsResult.rd {w : World} {v : Value} {x : MIntsResult} {b0 : List Nat} (h : OwIntsResult w v x b0) : RdIntsResult w v x := by
  obtain ⟨p0, c0, e, h0⟩ := h
  exact ⟨p0, c0, e, Ints.reads h0⟩
theorem OwIntsResult.keep {w : World} {v : Value} {x : MIntsResult} {b0 : List Nat} {w' : World} (h : OwIntsResult w v x b0) (hb : Below w.heap.size w w') : OwIntsResult w' v x b0 := by
  obtain ⟨p0, c0, e, h0⟩ := h
  exact ⟨p0, c0, e, Ints.keep h0 hb⟩
theorem OwIntsResult.off {w : World} {v : Value} {x : MIntsResult} {b0 : List Nat} {w' : World} {cs : List Nat} (h : OwIntsResult w v x b0) (hb : Off cs w w') (k : Dj (b0) cs) : OwIntsResult w' v x b0 := by
  obtain ⟨p0, c0, e, h0⟩ := h
  exact ⟨p0, c0, e, Ints.off h0 hb (fun g hg => k g (by simp [hg]))⟩
theorem OwIntsResult.lt {w : World} {v : Value} {x : MIntsResult} {b0 : List Nat} (h : OwIntsResult w v x b0) : ∀ g ∈ b0, g < w.heap.size := by
  obtain ⟨p0, c0, e, h0⟩ := h
  exact Ints.lt h0
theorem OwIntsResult.shp {w : World} {v : Value} {x : MIntsResult} {b0 : List Nat} (h : OwIntsResult w v x b0) : ∃ p0 c0, v = .agg #[.int .i64 x.xCode, .slice p0 x.xList.length c0] := by
  obtain ⟨p0, c0, e, _⟩ := h
  exact ⟨p0, c0, e⟩
theorem OwIntsResult.alloc {w : World} {v : Value} {x : MIntsResult} {b0 : List Nat} (h : OwIntsResult w v x b0) (o : Obj) : OwIntsResult (w.alloc o) v x b0 := h.keep ((Below.refl _ _).alloc (Nat.le_refl _) _)
theorem OwIntsResult.drew {w : World} {v : Value} {x : MIntsResult} {b0 : List Nat} (h : OwIntsResult w v x b0) : OwIntsResult w.drew v x b0 := h.keep (Below.refl _ _).drew
def totIntsResult (x : MIntsResult) : Nat := x.xList.length
def cntIntsResult (x : MIntsResult) : Nat := x.xList.length
theorem cntIntsResult_le (x : MIntsResult) : cntIntsResult x ≤ totIntsResult x := by
  unfold cntIntsResult totIntsResult
  omega
def mkIntsResult (k : Int) (x : MIntsResult) : MIntsResult := { x with xList := marks k x.xList.length }
-- Tape
def RdTape (w : World) (v : Value) (x : List (List Int)) : Prop := ∃ p0 c0, v = .agg #[.slice p0 x.length c0] ∧ ReadsM w (.slice p0 x.length c0) x
def OwTape (w : World) (v : Value) (x : List (List Int)) (b0 : List Nat) : Prop := ∃ p0 c0, v = .agg #[.slice p0 x.length c0] ∧ Mat w (.slice p0 x.length c0) x b0
theorem RdTape.below {w w' : World} {v : Value} {x : List (List Int)} (h : RdTape w v x) (hb : Below w.heap.size w w') : RdTape w' v x := by
  obtain ⟨p0, c0, e, h0⟩ := h
  exact ⟨p0, c0, e, h0.below hb⟩
theorem OwTape.rd {w : World} {v : Value} {x : List (List Int)} {b0 : List Nat} (h : OwTape w v x b0) : RdTape w v x := by
  obtain ⟨p0, c0, e, h0⟩ := h
  exact ⟨p0, c0, e, Mat.reads h0⟩
theorem OwTape.keep {w : World} {v : Value} {x : List (List Int)} {b0 : List Nat} {w' : World} (h : OwTape w v x b0) (hb : Below w.heap.size w w') : OwTape w' v x b0 := by
  obtain ⟨p0, c0, e, h0⟩ := h
  exact ⟨p0, c0, e, Mat.keep h0 hb⟩
theorem OwTape.off {w : World} {v : Value} {x : List (List Int)} {b0 : List Nat} {w' : World} {cs : List Nat} (h : OwTape w v x b0) (hb : Off cs w w') (k : Dj (b0) cs) : OwTape w' v x b0 := by
  obtain ⟨p0, c0, e, h0⟩ := h
  exact ⟨p0, c0, e, Mat.off h0 hb (fun g hg => k g (by simp [hg]))⟩
theorem OwTape.lt {w : World} {v : Value} {x : List (List Int)} {b0 : List Nat} (h : OwTape w v x b0) : ∀ g ∈ b0, g < w.heap.size := by
  obtain ⟨p0, c0, e, h0⟩ := h
  exact Mat.lt h0
theorem OwTape.shp {w : World} {v : Value} {x : List (List Int)} {b0 : List Nat} (h : OwTape w v x b0) : ∃ p0 c0, v = .agg #[.slice p0 x.length c0] := by
  obtain ⟨p0, c0, e, _⟩ := h
  exact ⟨p0, c0, e⟩
theorem OwTape.alloc {w : World} {v : Value} {x : List (List Int)} {b0 : List Nat} (h : OwTape w v x b0) (o : Obj) : OwTape (w.alloc o) v x b0 := h.keep ((Below.refl _ _).alloc (Nat.le_refl _) _)
theorem OwTape.drew {w : World} {v : Value} {x : List (List Int)} {b0 : List Nat} (h : OwTape w v x b0) : OwTape w.drew v x b0 := h.keep (Below.refl _ _).drew
def totTape (x : List (List Int)) : Nat := (tot x)
def cntTape (x : List (List Int)) : Nat := sl x
theorem cntTape_le (x : List (List Int)) : cntTape x ≤ totTape x := by
  have := sl_le_tot x
  unfold cntTape totTape
  omega
def mkTape (k : Int) (x : List (List Int)) : List (List Int) := marksM k x
set_option maxHeartbeats 1000000 in
theorem eqTape_rd (v u : Value) (x : List (List Int)) (w : World) (hv : RdTape w v x) (hu : RdTape w u x) :
    Calls Tryz.prog 44 #[v, u] w fun e w' => e = .returned (.bool true) ∧ Below w.heap.size w w' := by
  obtain ⟨p0, c0, rfl, h0⟩ := hv
  obtain ⟨q0, d0, rfl, k0⟩ := hu
  have B0 : Below w.heap.size w ((w.alloc (.cells #[.slice p0 x.length c0] 37)).alloc (.cells #[.slice q0 x.length d0] 37)) := (by repeat (first | exact Below.refl _ _ | refine Below.drew ?_ | refine below_drewN ?_ _ | refine Below.setCell ?_ (by first | omega | (simp; done) | (simp; omega)) _ | refine Below.alloc ?_ (by first | omega | (simp; done) | (simp; omega)) _))
  have X0 := (Blk.new w 37 #[.slice p0 x.length c0]).alloc (.cells #[.slice q0 x.length d0] 37)
  have Y0 : Blk ((w.alloc (.cells #[.slice p0 x.length c0] 37)).alloc (.cells #[.slice q0 x.length d0] 37)) (w.heap.size + 1) 37 #[.slice q0 x.length d0] := by simpa using Blk.new (w.alloc (.cells #[.slice p0 x.length c0] 37)) 37 #[.slice q0 x.length d0]
  replace h0 := h0.below B0
  replace k0 := k0.below B0
  go_enter Tryz.func44, Tryz.ntmps44
  go_wp2_with fail
  refine (eqInt64SS_rd _ _ x _ (by exact h0) (by exact k0)).mono ?_
  rintro e w1 ⟨rfl, hb1⟩
  have X1 := X0.keep hb1
  have Y1 := Y0.keep hb1
  have B1 : Below w.heap.size w w1 := B0.trans (hb1.mono B0.size)
  replace h0 := h0.below hb1
  replace k0 := k0.below hb1
  clear X0 Y0
  have xa := X1.at.1
  have ya := Y1.at.1
  go_wp2
  go_ret
  exact ⟨rfl, B1⟩
set_option maxHeartbeats 1000000 in
theorem markTape_ow (v : Value) (x : List (List Int)) (b0 : List Nat) (k : Int) (w : World) (hv : OwTape w v x b0) (hk : 0 ≤ k) (hk' : k + (cntTape x : Nat) ≤ 536870912) :
    Calls Tryz.prog 49 #[v, .int .i64 k] w fun e w' => e = .returned (.int .i64 (k + (cntTape x : Nat))) ∧ OwTape w' v (mkTape k x) b0 ∧ Off (b0) w w' := by
  obtain ⟨p0, c0, rfl, h0⟩ := hv
  have X0 := Blk.new w 37 #[.slice p0 x.length c0]
  have n0 : w.heap.size ∉ b0 := fun h => Nat.lt_irrefl _ (Mat.lt h0 _ h)
  replace h0 := Mat.alloc h0 (.cells #[.slice p0 x.length c0] 37)
  have O0 : Off (b0) w (w.alloc (.cells #[.slice p0 x.length c0] 37)) := (Off.refl _ _).alloc _
  have HC : Hid (cntTape x = sl x) := rfl
  have hk'' := hk'
  rw [HC.out] at hk''
  clear hk'
  have C0 : Hid (sl x = sl x) := rfl
  go_enter Tryz.func49, Tryz.ntmps49
  go_wp2_with fail
  refine (markInt64SS_ow _ x b0 _ _ (by exact h0) (by omega) (by omega)).mono ?_
  rintro e w1 ⟨rfl, m0, o1⟩
  have O1 := O0.trans o1
  go_wp2
  go_ret
  refine ⟨by rw [HC.out]; go_num, ?_, O1⟩
  refine ⟨p0, c0, by simp [mkTape, marksM_length], ?_⟩
  · simpa [mkTape, marksM_length] using m0
set_option maxHeartbeats 1000000 in
theorem heldTape_rd (v : Value) (x : List (List Int)) (k : Int) (w : World) (hv : RdTape w v (mkTape k x)) (hk : 0 ≤ k) (hk' : k + (cntTape x : Nat) ≤ 536870912) :
    Calls Tryz.prog 78 #[v, .int .i64 k] w fun e w' => e = .returned (.int .i64 (k + (cntTape x : Nat))) ∧ Below w.heap.size w w' := by
  obtain ⟨p0, c0, rfl, h0⟩ := hv
  have X0 := Blk.new w 37 #[.slice p0 (mkTape k x).length c0]
  have B0 : Below w.heap.size w (w.alloc (.cells #[.slice p0 (mkTape k x).length c0] 37)) := (by repeat (first | exact Below.refl _ _ | refine Below.drew ?_ | refine below_drewN ?_ _ | refine Below.setCell ?_ (by first | omega | (simp; done) | (simp; omega)) _ | refine Below.alloc ?_ (by first | omega | (simp; done) | (simp; omega)) _))
  replace h0 := h0.below B0
  have HC : Hid (cntTape x = sl x) := rfl
  have hk'' := hk'
  rw [HC.out] at hk''
  clear hk'
  go_enter Tryz.func78, Tryz.ntmps78
  go_wp2_with fail
  refine (heldInt64SS_rd _ x _ _ (by exact h0) (by omega) (by omega)).mono ?_
  rintro e w1 ⟨rfl, hb1⟩
  have B1 : Below w.heap.size w w1 := B0.trans (hb1.mono B0.size)
  go_wp2
  go_ret
  exact ⟨by rw [HC.out]; go_num, B1⟩
set_option maxHeartbeats 1000000 in
theorem szTape_fit (v : Value) (x : List (List Int)) (left : Int) (w : World) (hv : RdTape w v x) (h0 : 0 ≤ left) (h' : left ≤ 1048576) (h : (totTape x : Int) ≤ left) :
    Calls Tryz.prog 27 #[v, .int .i64 left] w fun e w' => e = .returned (.int .i64 (left - (totTape x : Nat))) ∧ Below w.heap.size w w' := by
  obtain ⟨p0, c0, rfl, r0⟩ := hv
  have X0 := Blk.new w 24 #[.slice p0 x.length c0]
  have B0 : Below w.heap.size w (w.alloc (.cells #[.slice p0 x.length c0] 24)) := (by repeat (first | exact Below.refl _ _ | refine Below.drew ?_ | refine below_drewN ?_ _ | refine Below.setCell ?_ (by first | omega | (simp; done) | (simp; omega)) _ | refine Below.alloc ?_ (by first | omega | (simp; done) | (simp; omega)) _))
  replace r0 := r0.below B0
  have HC : Hid (totTape x = (tot x)) := rfl
  have hh := h
  rw [HC.out] at hh
  clear h
  go_enter Tryz.func27, Tryz.ntmps27
  go_wp2_with fail
  refine (szInt64SS_fit _ x _ _ (by exact r0) (by omega) (by omega) (by omega)).mono ?_
  rintro e w1 ⟨rfl, hb1⟩
  have X1 := X0.keep hb1
  have B1 : Below w.heap.size w w1 := B0.trans (hb1.mono B0.size)
  go_wp2
  go_ret
  exact ⟨by rw [HC.out]; go_num, B1⟩
set_option maxHeartbeats 1000000 in
theorem szTape_over (v : Value) (x : List (List Int)) (left : Int) (w : World) (hv : RdTape w v x) (h0 : 0 ≤ left) (h' : left ≤ 1048576) (h : left < (totTape x : Int)) :
    Calls Tryz.prog 27 #[v, .int .i64 left] w fun e w' => e = .returned (.int .i64 (-1)) ∧ Below w.heap.size w w' := by
  obtain ⟨p0, c0, rfl, r0⟩ := hv
  have X0 := Blk.new w 24 #[.slice p0 x.length c0]
  have B0 : Below w.heap.size w (w.alloc (.cells #[.slice p0 x.length c0] 24)) := (by repeat (first | exact Below.refl _ _ | refine Below.drew ?_ | refine below_drewN ?_ _ | refine Below.setCell ?_ (by first | omega | (simp; done) | (simp; omega)) _ | refine Below.alloc ?_ (by first | omega | (simp; done) | (simp; omega)) _))
  replace r0 := r0.below B0
  have HC : Hid (totTape x = (tot x)) := rfl
  have hh := h
  rw [HC.out] at hh
  clear h
  go_enter Tryz.func27, Tryz.ntmps27
  go_wp2_with fail
  refine (szInt64SS_over _ x _ _ (by exact r0) (by omega) (by omega) (by omega)).mono ?_
  rintro e w1 ⟨rfl, hb1⟩
  have X1 := X0.keep hb1
  have B1 : Below w.heap.size w w1 := B0.trans (hb1.mono B0.size)
  go_wp2
  go_ret
  exact ⟨rfl, B1⟩
set_option maxHeartbeats 2000000 in
set_option maxRecDepth 100000 in
theorem toTape_ow (v : Value) (x : List (List Int)) (w : World) (hv : RdTape w v x) (hl : totTape x ≤ 1048576) :
    Calls Tryz.prog 34 #[v] w fun e w' => ∃ u b0, e = .returned u ∧ OwTape w' u x b0 ∧ (∀ y ∈ b0, w.heap.size ≤ y) ∧ Below w.heap.size w w' := by
  obtain ⟨p0, c0, rfl, r0⟩ := hv
  have HC : Hid (totTape x = (tot x)) := rfl
  have hl2 := hl
  rw [HC.out] at hl2
  clear hl
  have X0 := ((Blk.new w 24 #[.slice p0 x.length c0]).alloc (.cells #[.slice none 0 0] 37)).alloc (.cells #[.slice none 0 0] 37)
  have Y0 : Blk (((w.alloc (.cells #[.slice p0 x.length c0] 24)).alloc (.cells #[.slice none 0 0] 37)).alloc (.cells #[.slice none 0 0] 37)) (w.heap.size + 1) 37 #[.slice none 0 0] := by simpa using (Blk.new (w.alloc (.cells #[.slice p0 x.length c0] 24)) 37 #[.slice none 0 0]).alloc (.cells #[.slice none 0 0] 37)
  have Z0 : Blk (((w.alloc (.cells #[.slice p0 x.length c0] 24)).alloc (.cells #[.slice none 0 0] 37)).alloc (.cells #[.slice none 0 0] 37)) (w.heap.size + 1 + 1) 37 #[.slice none 0 0] := by simpa using Blk.new ((w.alloc (.cells #[.slice p0 x.length c0] 24)).alloc (.cells #[.slice none 0 0] 37)) 37 #[.slice none 0 0]
  have B0 : Below w.heap.size w (((w.alloc (.cells #[.slice p0 x.length c0] 24)).alloc (.cells #[.slice none 0 0] 37)).alloc (.cells #[.slice none 0 0] 37)) := (by repeat (first | exact Below.refl _ _ | refine Below.drew ?_ | refine below_drewN ?_ _ | refine Below.setCell ?_ (by first | omega | (simp; done) | (simp; omega)) _ | refine Below.alloc ?_ (by first | omega | (simp; done) | (simp; omega)) _))
  have Z0l := Z0.lt
  go_enter Tryz.func34, Tryz.ntmps34
  go_wp2_with fail
  refine (toInt64SS_ow _ x _ (by exact r0.below B0) (by omega)).mono ?_
  rintro e w1 ⟨u, b0, rfl, h, g0, hb1⟩
  obtain ⟨P0, Q0, rfl⟩ := Mat.value h
  have h0 := h
  clear h
  replace g0 : ∀ y ∈ b0, w.heap.size + 1 + 1 < y := fun y hy => by have := g0 y hy; simp at this; omega
  have X1 := X0.keep hb1
  have Y1 := Y0.keep hb1
  have Z1 := Z0.keep hb1
  have B1 : Below w.heap.size w w1 := B0.trans (hb1.mono B0.size)
  have Z1l := Z1.lt
  clear X0 Y0 Z0 B0 Z0l
  have xa := X1.at.1
  have ya1 := Y1.at.1
  have ya2 := Y1.at.2
  have za1 := Z1.at.1
  have za2 := Z1.at.2
  go_wp2
  have OO : ∀ W, Off [w.heap.size + 1, w.heap.size + 1 + 1] w1 W → (∃ u b0, Ending.returned (.agg #[.slice P0 x.length Q0]) = .returned u ∧ OwTape W u x b0 ∧ (∀ y ∈ b0, w.heap.size ≤ y) ∧ Below w.heap.size w W) := fun W OO => ⟨_, b0, rfl, ⟨P0, Q0, rfl, Mat.off h0 OO (fun y hy hm => by have := g0 y hy; simp at hm; omega)⟩, fun y hy => by have := g0 y hy; omega, B1.trans (OO.toBelow (by have := B1.size; omega) (by simp; omega))⟩
  refine bodyPost_gen (F := fun W => Blk W (w.heap.size + 1) 37 #[.slice P0 x.length Q0] ∧ Off [w.heap.size + 1, w.heap.size + 1 + 1] w1 W) ⟨Blk.of_eq ((Y1.setOther _ _ (by simp)).set 0 _) (by simp), (((Off.refl _ _).setCell _ _ (by simp)).setCell _ _ (by simp))⟩ ?_
  rintro W ⟨RB, OW⟩
  have rb := RB.at.1
  exact bodyPost_ret (v := .agg #[.slice P0 x.length Q0]) (by simp [results, Tryz.results34, go_sem, rb]) rfl (OO W OW)
-- TapeResult
/-- the plain shape of TapeResult -/
structure MTapeResult where
  xCode : Int
  xTape : List (List Int)
def RdTapeResult (w : World) (v : Value) (x : MTapeResult) : Prop := ∃ p0 c0, v = .agg #[.int .i64 x.xCode, .slice p0 x.xTape.length c0] ∧ ReadsM w (.slice p0 x.xTape.length c0) x.xTape
def OwTapeResult (w : World) (v : Value) (x : MTapeResult) (b0 : List Nat) : Prop := ∃ p0 c0, v = .agg #[.int .i64 x.xCode, .slice p0 x.xTape.length c0] ∧ Mat w (.slice p0 x.xTape.length c0) x.xTape b0
theorem RdTapeResult.below {w w' : World} {v : Value} {x : MTapeResult} (h : RdTapeResult w v x) (hb : Below w.heap.size w w') : RdTapeResult w' v x := by
  obtain ⟨p0, c0, e, h0⟩ := h
  exact ⟨p0, c0, e, h0.below hb⟩
theorem OwTapeResult.rd {w : World} {v : Value} {x : MTapeResult} {b0 : List Nat} (h : OwTapeResult w v x b0) : RdTapeResult w v x := by
  obtain ⟨p0, c0, e, h0⟩ := h
  exact ⟨p0, c0, e, Mat.reads h0⟩
theorem OwTapeResult.keep {w : World} {v : Value} {x : MTapeResult} {b0 : List Nat} {w' : World} (h : OwTapeResult w v x b0) (hb : Below w.heap.size w w') : OwTapeResult w' v x b0 := by
  obtain ⟨p0, c0, e, h0⟩ := h
  exact ⟨p0, c0, e, Mat.keep h0 hb⟩
theorem OwTapeResult.off {w : World} {v : Value} {x : MTapeResult} {b0 : List Nat} {w' : World} {cs : List Nat} (h : OwTapeResult w v x b0) (hb : Off cs w w') (k : Dj (b0) cs) : OwTapeResult w' v x b0 := by
  obtain ⟨p0, c0, e, h0⟩ := h
  exact ⟨p0, c0, e, Mat.off h0 hb (fun g hg => k g (by simp [hg]))⟩
theorem OwTapeResult.lt {w : World} {v : Value} {x : MTapeResult} {b0 : List Nat} (h : OwTapeResult w v x b0) : ∀ g ∈ b0, g < w.heap.size := by
  obtain ⟨p0, c0, e, h0⟩ := h
  exact Mat.lt h0
theorem OwTapeResult.shp {w : World} {v : Value} {x : MTapeResult} {b0 : List Nat} (h : OwTapeResult w v x b0) : ∃ p0 c0, v = .agg #[.int .i64 x.xCode, .slice p0 x.xTape.length c0] := by
  obtain ⟨p0, c0, e, _⟩ := h
  exact ⟨p0, c0, e⟩
theorem OwTapeResult.alloc {w : World} {v : Value} {x : MTapeResult} {b0 : List Nat} (h : OwTapeResult w v x b0) (o : Obj) : OwTapeResult (w.alloc o) v x b0 := h.keep ((Below.refl _ _).alloc (Nat.le_refl _) _)
theorem OwTapeResult.drew {w : World} {v : Value} {x : MTapeResult} {b0 : List Nat} (h : OwTapeResult w v x b0) : OwTapeResult w.drew v x b0 := h.keep (Below.refl _ _).drew
def totTapeResult (x : MTapeResult) : Nat := (totTape x.xTape)
def cntTapeResult (x : MTapeResult) : Nat := cntTape x.xTape
theorem cntTapeResult_le (x : MTapeResult) : cntTapeResult x ≤ totTapeResult x := by
  have := cntTape_le x.xTape
  unfold cntTapeResult totTapeResult
  omega
def mkTapeResult (k : Int) (x : MTapeResult) : MTapeResult := { x with xTape := mkTape k x.xTape }
-- Mirror
/-- the plain shape of Mirror -/
structure MMirror where
  xQ : Int
  xViews : List (List Int)
def RdMirror (w : World) (v : Value) (x : MMirror) : Prop := ∃ p0 c0, v = .agg #[.int .i64 x.xQ, .slice p0 x.xViews.length c0] ∧ ReadsM w (.slice p0 x.xViews.length c0) x.xViews
def OwMirror (w : World) (v : Value) (x : MMirror) (b0 : List Nat) : Prop := ∃ p0 c0, v = .agg #[.int .i64 x.xQ, .slice p0 x.xViews.length c0] ∧ Mat w (.slice p0 x.xViews.length c0) x.xViews b0
theorem RdMirror.below {w w' : World} {v : Value} {x : MMirror} (h : RdMirror w v x) (hb : Below w.heap.size w w') : RdMirror w' v x := by
  obtain ⟨p0, c0, e, h0⟩ := h
  exact ⟨p0, c0, e, h0.below hb⟩
theorem OwMirror.rd {w : World} {v : Value} {x : MMirror} {b0 : List Nat} (h : OwMirror w v x b0) : RdMirror w v x := by
  obtain ⟨p0, c0, e, h0⟩ := h
  exact ⟨p0, c0, e, Mat.reads h0⟩
theorem OwMirror.keep {w : World} {v : Value} {x : MMirror} {b0 : List Nat} {w' : World} (h : OwMirror w v x b0) (hb : Below w.heap.size w w') : OwMirror w' v x b0 := by
  obtain ⟨p0, c0, e, h0⟩ := h
  exact ⟨p0, c0, e, Mat.keep h0 hb⟩
theorem OwMirror.off {w : World} {v : Value} {x : MMirror} {b0 : List Nat} {w' : World} {cs : List Nat} (h : OwMirror w v x b0) (hb : Off cs w w') (k : Dj (b0) cs) : OwMirror w' v x b0 := by
  obtain ⟨p0, c0, e, h0⟩ := h
  exact ⟨p0, c0, e, Mat.off h0 hb (fun g hg => k g (by simp [hg]))⟩
theorem OwMirror.lt {w : World} {v : Value} {x : MMirror} {b0 : List Nat} (h : OwMirror w v x b0) : ∀ g ∈ b0, g < w.heap.size := by
  obtain ⟨p0, c0, e, h0⟩ := h
  exact Mat.lt h0
theorem OwMirror.shp {w : World} {v : Value} {x : MMirror} {b0 : List Nat} (h : OwMirror w v x b0) : ∃ p0 c0, v = .agg #[.int .i64 x.xQ, .slice p0 x.xViews.length c0] := by
  obtain ⟨p0, c0, e, _⟩ := h
  exact ⟨p0, c0, e⟩
theorem OwMirror.alloc {w : World} {v : Value} {x : MMirror} {b0 : List Nat} (h : OwMirror w v x b0) (o : Obj) : OwMirror (w.alloc o) v x b0 := h.keep ((Below.refl _ _).alloc (Nat.le_refl _) _)
theorem OwMirror.drew {w : World} {v : Value} {x : MMirror} {b0 : List Nat} (h : OwMirror w v x b0) : OwMirror w.drew v x b0 := h.keep (Below.refl _ _).drew
def totMirror (x : MMirror) : Nat := (tot x.xViews)
def cntMirror (x : MMirror) : Nat := sl x.xViews
theorem cntMirror_le (x : MMirror) : cntMirror x ≤ totMirror x := by
  have := sl_le_tot x.xViews
  unfold cntMirror totMirror
  omega
def mkMirror (k : Int) (x : MMirror) : MMirror := { x with xViews := marksM k x.xViews }
set_option maxHeartbeats 1000000 in
theorem eqMirror_rd (v u : Value) (x : MMirror) (w : World) (hv : RdMirror w v x) (hu : RdMirror w u x) :
    Calls Tryz.prog 13 #[v, u] w fun e w' => e = .returned (.bool true) ∧ Below w.heap.size w w' := by
  obtain ⟨p0, c0, rfl, h0⟩ := hv
  obtain ⟨q0, d0, rfl, k0⟩ := hu
  have B0 : Below w.heap.size w ((w.alloc (.cells #[.int .i64 x.xQ, .slice p0 x.xViews.length c0] 36)).alloc (.cells #[.int .i64 x.xQ, .slice q0 x.xViews.length d0] 36)) := (by repeat (first | exact Below.refl _ _ | refine Below.drew ?_ | refine below_drewN ?_ _ | refine Below.setCell ?_ (by first | omega | (simp; done) | (simp; omega)) _ | refine Below.alloc ?_ (by first | omega | (simp; done) | (simp; omega)) _))
  have X0 := (Blk.new w 36 #[.int .i64 x.xQ, .slice p0 x.xViews.length c0]).alloc (.cells #[.int .i64 x.xQ, .slice q0 x.xViews.length d0] 36)
  have Y0 : Blk ((w.alloc (.cells #[.int .i64 x.xQ, .slice p0 x.xViews.length c0] 36)).alloc (.cells #[.int .i64 x.xQ, .slice q0 x.xViews.length d0] 36)) (w.heap.size + 1) 36 #[.int .i64 x.xQ, .slice q0 x.xViews.length d0] := by simpa using Blk.new (w.alloc (.cells #[.int .i64 x.xQ, .slice p0 x.xViews.length c0] 36)) 36 #[.int .i64 x.xQ, .slice q0 x.xViews.length d0]
  replace h0 := h0.below B0
  replace k0 := k0.below B0
  go_enter Tryz.func13, Tryz.ntmps13
  go_wp2_with fail
  refine (eqInt64SS_rd _ _ x.xViews _ (by exact h0) (by exact k0)).mono ?_
  rintro e w1 ⟨rfl, hb1⟩
  have X1 := X0.keep hb1
  have Y1 := Y0.keep hb1
  have B1 : Below w.heap.size w w1 := B0.trans (hb1.mono B0.size)
  replace h0 := h0.below hb1
  replace k0 := k0.below hb1
  clear X0 Y0
  have xa := X1.at.1
  have ya := Y1.at.1
  go_wp2
  go_ret
  exact ⟨rfl, B1⟩
set_option maxHeartbeats 1000000 in
theorem markMirror_ow (v : Value) (x : MMirror) (b0 : List Nat) (k : Int) (w : World) (hv : OwMirror w v x b0) (hk : 0 ≤ k) (hk' : k + (cntMirror x : Nat) ≤ 536870912) :
    Calls Tryz.prog 15 #[v, .int .i64 k] w fun e w' => e = .returned (.int .i64 (k + (cntMirror x : Nat))) ∧ OwMirror w' v (mkMirror k x) b0 ∧ Off (b0) w w' := by
  obtain ⟨p0, c0, rfl, h0⟩ := hv
  have X0 := Blk.new w 36 #[.int .i64 x.xQ, .slice p0 x.xViews.length c0]
  have n0 : w.heap.size ∉ b0 := fun h => Nat.lt_irrefl _ (Mat.lt h0 _ h)
  replace h0 := Mat.alloc h0 (.cells #[.int .i64 x.xQ, .slice p0 x.xViews.length c0] 36)
  have O0 : Off (b0) w (w.alloc (.cells #[.int .i64 x.xQ, .slice p0 x.xViews.length c0] 36)) := (Off.refl _ _).alloc _
  have HC : Hid (cntMirror x = sl x.xViews) := rfl
  have hk'' := hk'
  rw [HC.out] at hk''
  clear hk'
  have C0 : Hid (sl x.xViews = sl x.xViews) := rfl
  go_enter Tryz.func15, Tryz.ntmps15
  go_wp2_with fail
  refine (markInt64SS_ow _ x.xViews b0 _ _ (by exact h0) (by omega) (by omega)).mono ?_
  rintro e w1 ⟨rfl, m0, o1⟩
  have O1 := O0.trans o1
  go_wp2
  go_ret
  refine ⟨by rw [HC.out]; go_num, ?_, O1⟩
  refine ⟨p0, c0, by simp [mkMirror, marksM_length], ?_⟩
  · simpa [mkMirror, marksM_length] using m0
set_option maxHeartbeats 1000000 in
theorem heldMirror_rd (v : Value) (x : MMirror) (k : Int) (w : World) (hv : RdMirror w v (mkMirror k x)) (hk : 0 ≤ k) (hk' : k + (cntMirror x : Nat) ≤ 536870912) :
    Calls Tryz.prog 52 #[v, .int .i64 k] w fun e w' => e = .returned (.int .i64 (k + (cntMirror x : Nat))) ∧ Below w.heap.size w w' := by
  obtain ⟨p0, c0, rfl, h0⟩ := hv
  have X0 := Blk.new w 36 #[.int .i64 (mkMirror k x).xQ, .slice p0 (mkMirror k x).xViews.length c0]
  have B0 : Below w.heap.size w (w.alloc (.cells #[.int .i64 (mkMirror k x).xQ, .slice p0 (mkMirror k x).xViews.length c0] 36)) := (by repeat (first | exact Below.refl _ _ | refine Below.drew ?_ | refine below_drewN ?_ _ | refine Below.setCell ?_ (by first | omega | (simp; done) | (simp; omega)) _ | refine Below.alloc ?_ (by first | omega | (simp; done) | (simp; omega)) _))
  replace h0 := h0.below B0
  have HC : Hid (cntMirror x = sl x.xViews) := rfl
  have hk'' := hk'
  rw [HC.out] at hk''
  clear hk'
  go_enter Tryz.func52, Tryz.ntmps52
  go_wp2_with fail
  refine (heldInt64SS_rd _ x.xViews _ _ (by exact h0) (by omega) (by omega)).mono ?_
  rintro e w1 ⟨rfl, hb1⟩
  have B1 : Below w.heap.size w w1 := B0.trans (hb1.mono B0.size)
  go_wp2
  go_ret
  exact ⟨by rw [HC.out]; go_num, B1⟩
set_option maxHeartbeats 1000000 in
theorem szMirror_fit (v : Value) (x : MMirror) (left : Int) (w : World) (hv : RdMirror w v x) (h0 : 0 ≤ left) (h' : left ≤ 1048576) (h : (totMirror x : Int) ≤ left) :
    Calls Tryz.prog 6 #[v, .int .i64 left] w fun e w' => e = .returned (.int .i64 (left - (totMirror x : Nat))) ∧ Below w.heap.size w w' := by
  obtain ⟨p0, c0, rfl, r0⟩ := hv
  have X0 := Blk.new w 33 #[.int .i64 x.xQ, .slice p0 x.xViews.length c0]
  have B0 : Below w.heap.size w (w.alloc (.cells #[.int .i64 x.xQ, .slice p0 x.xViews.length c0] 33)) := (by repeat (first | exact Below.refl _ _ | refine Below.drew ?_ | refine below_drewN ?_ _ | refine Below.setCell ?_ (by first | omega | (simp; done) | (simp; omega)) _ | refine Below.alloc ?_ (by first | omega | (simp; done) | (simp; omega)) _))
  replace r0 := r0.below B0
  have HC : Hid (totMirror x = (tot x.xViews)) := rfl
  have hh := h
  rw [HC.out] at hh
  clear h
  go_enter Tryz.func6, Tryz.ntmps6
  go_wp2_with fail
  refine (szInt64SS_fit _ x.xViews _ _ (by exact r0) (by omega) (by omega) (by omega)).mono ?_
  rintro e w1 ⟨rfl, hb1⟩
  have X1 := X0.keep hb1
  have B1 : Below w.heap.size w w1 := B0.trans (hb1.mono B0.size)
  go_wp2
  go_ret
  exact ⟨by rw [HC.out]; go_num, B1⟩
set_option maxHeartbeats 1000000 in
theorem szMirror_over (v : Value) (x : MMirror) (left : Int) (w : World) (hv : RdMirror w v x) (h0 : 0 ≤ left) (h' : left ≤ 1048576) (h : left < (totMirror x : Int)) :
    Calls Tryz.prog 6 #[v, .int .i64 left] w fun e w' => e = .returned (.int .i64 (-1)) ∧ Below w.heap.size w w' := by
  obtain ⟨p0, c0, rfl, r0⟩ := hv
  have X0 := Blk.new w 33 #[.int .i64 x.xQ, .slice p0 x.xViews.length c0]
  have B0 : Below w.heap.size w (w.alloc (.cells #[.int .i64 x.xQ, .slice p0 x.xViews.length c0] 33)) := (by repeat (first | exact Below.refl _ _ | refine Below.drew ?_ | refine below_drewN ?_ _ | refine Below.setCell ?_ (by first | omega | (simp; done) | (simp; omega)) _ | refine Below.alloc ?_ (by first | omega | (simp; done) | (simp; omega)) _))
  replace r0 := r0.below B0
  have HC : Hid (totMirror x = (tot x.xViews)) := rfl
  have hh := h
  rw [HC.out] at hh
  clear h
  go_enter Tryz.func6, Tryz.ntmps6
  go_wp2_with fail
  refine (szInt64SS_over _ x.xViews _ _ (by exact r0) (by omega) (by omega) (by omega)).mono ?_
  rintro e w1 ⟨rfl, hb1⟩
  have X1 := X0.keep hb1
  have B1 : Below w.heap.size w w1 := B0.trans (hb1.mono B0.size)
  go_wp2
  go_ret
  exact ⟨rfl, B1⟩
set_option maxHeartbeats 2000000 in
set_option maxRecDepth 100000 in
theorem toMirror_ow (v : Value) (x : MMirror) (w : World) (hv : RdMirror w v x) (hl : totMirror x ≤ 1048576) :
    Calls Tryz.prog 9 #[v] w fun e w' => ∃ u b0, e = .returned u ∧ OwMirror w' u x b0 ∧ (∀ y ∈ b0, w.heap.size ≤ y) ∧ Below w.heap.size w w' := by
  obtain ⟨p0, c0, rfl, r0⟩ := hv
  have HC : Hid (totMirror x = (tot x.xViews)) := rfl
  have hl2 := hl
  rw [HC.out] at hl2
  clear hl
  have X0 := ((Blk.new w 33 #[.int .i64 x.xQ, .slice p0 x.xViews.length c0]).alloc (.cells #[.int .i64 0, .slice none 0 0] 36)).alloc (.cells #[.int .i64 x.xQ, .slice none 0 0] 36)
  have Y0 : Blk (((w.alloc (.cells #[.int .i64 x.xQ, .slice p0 x.xViews.length c0] 33)).alloc (.cells #[.int .i64 0, .slice none 0 0] 36)).alloc (.cells #[.int .i64 x.xQ, .slice none 0 0] 36)) (w.heap.size + 1) 36 #[.int .i64 0, .slice none 0 0] := by simpa using (Blk.new (w.alloc (.cells #[.int .i64 x.xQ, .slice p0 x.xViews.length c0] 33)) 36 #[.int .i64 0, .slice none 0 0]).alloc (.cells #[.int .i64 x.xQ, .slice none 0 0] 36)
  have Z0 : Blk (((w.alloc (.cells #[.int .i64 x.xQ, .slice p0 x.xViews.length c0] 33)).alloc (.cells #[.int .i64 0, .slice none 0 0] 36)).alloc (.cells #[.int .i64 x.xQ, .slice none 0 0] 36)) (w.heap.size + 1 + 1) 36 #[.int .i64 x.xQ, .slice none 0 0] := by simpa using Blk.new ((w.alloc (.cells #[.int .i64 x.xQ, .slice p0 x.xViews.length c0] 33)).alloc (.cells #[.int .i64 0, .slice none 0 0] 36)) 36 #[.int .i64 x.xQ, .slice none 0 0]
  have B0 : Below w.heap.size w (((w.alloc (.cells #[.int .i64 x.xQ, .slice p0 x.xViews.length c0] 33)).alloc (.cells #[.int .i64 0, .slice none 0 0] 36)).alloc (.cells #[.int .i64 x.xQ, .slice none 0 0] 36)) := (by repeat (first | exact Below.refl _ _ | refine Below.drew ?_ | refine below_drewN ?_ _ | refine Below.setCell ?_ (by first | omega | (simp; done) | (simp; omega)) _ | refine Below.alloc ?_ (by first | omega | (simp; done) | (simp; omega)) _))
  have Z0l := Z0.lt
  go_enter Tryz.func9, Tryz.ntmps9
  go_wp2_with fail
  refine (toInt64SS_ow _ x.xViews _ (by exact r0.below B0) (by omega)).mono ?_
  rintro e w1 ⟨u, b0, rfl, h, g0, hb1⟩
  obtain ⟨P0, Q0, rfl⟩ := Mat.value h
  have h0 := h
  clear h
  replace g0 : ∀ y ∈ b0, w.heap.size + 1 + 1 < y := fun y hy => by have := g0 y hy; simp at this; omega
  have X1 := X0.keep hb1
  have Y1 := Y0.keep hb1
  have Z1 := Z0.keep hb1
  have B1 : Below w.heap.size w w1 := B0.trans (hb1.mono B0.size)
  have Z1l := Z1.lt
  clear X0 Y0 Z0 B0 Z0l
  have xa := X1.at.1
  have ya1 := Y1.at.1
  have ya2 := Y1.at.2
  have za1 := Z1.at.1
  have za2 := Z1.at.2
  go_wp2
  have OO : ∀ W, Off [w.heap.size + 1, w.heap.size + 1 + 1] w1 W → (∃ u b0, Ending.returned (.agg #[.int .i64 x.xQ, .slice P0 x.xViews.length Q0]) = .returned u ∧ OwMirror W u x b0 ∧ (∀ y ∈ b0, w.heap.size ≤ y) ∧ Below w.heap.size w W) := fun W OO => ⟨_, b0, rfl, ⟨P0, Q0, rfl, Mat.off h0 OO (fun y hy hm => by have := g0 y hy; simp at hm; omega)⟩, fun y hy => by have := g0 y hy; omega, B1.trans (OO.toBelow (by have := B1.size; omega) (by simp; omega))⟩
  refine bodyPost_gen (F := fun W => Blk W (w.heap.size + 1) 36 #[.int .i64 x.xQ, .slice P0 x.xViews.length Q0] ∧ Off [w.heap.size + 1, w.heap.size + 1 + 1] w1 W) ⟨Blk.of_eq (((Y1.setOther _ _ (by simp)).set 0 _).set 1 _) (by simp), ((((Off.refl _ _).setCell _ _ (by simp)).setCell _ _ (by simp)).setCell _ _ (by simp))⟩ ?_
  rintro W ⟨RB, OW⟩
  have rb := RB.at.1
  exact bodyPost_ret (v := .agg #[.int .i64 x.xQ, .slice P0 x.xViews.length Q0]) (by simp [results, Tryz.results9, go_sem, rb]) rfl (OO W OW)
-- MirrorResult
/-- the plain shape of MirrorResult -/
structure MMirrorResult where
  xCode : Int
  xMirror : MMirror
def RdMirrorResult (w : World) (v : Value) (x : MMirrorResult) : Prop := ∃ p0 c0, v = .agg #[.int .i64 x.xCode, .int .i64 x.xMirror.xQ, .slice p0 x.xMirror.xViews.length c0] ∧ ReadsM w (.slice p0 x.xMirror.xViews.length c0) x.xMirror.xViews
def OwMirrorResult (w : World) (v : Value) (x : MMirrorResult) (b0 : List Nat) : Prop := ∃ p0 c0, v = .agg #[.int .i64 x.xCode, .int .i64 x.xMirror.xQ, .slice p0 x.xMirror.xViews.length c0] ∧ Mat w (.slice p0 x.xMirror.xViews.length c0) x.xMirror.xViews b0
theorem RdMirrorResult.below {w w' : World} {v : Value} {x : MMirrorResult} (h : RdMirrorResult w v x) (hb : Below w.heap.size w w') : RdMirrorResult w' v x := by
  obtain ⟨p0, c0, e, h0⟩ := h
  exact ⟨p0, c0, e, h0.below hb⟩
theorem OwMirrorResult.rd {w : World} {v : Value} {x : MMirrorResult} {b0 : List Nat} (h : OwMirrorResult w v x b0) : RdMirrorResult w v x := by
  obtain ⟨p0, c0, e, h0⟩ := h
  exact ⟨p0, c0, e, Mat.reads h0⟩
theorem OwMirrorResult.keep {w : World} {v : Value} {x : MMirrorResult} {b0 : List Nat} {w' : World} (h : OwMirrorResult w v x b0) (hb : Below w.heap.size w w') : OwMirrorResult w' v x b0 := by
  obtain ⟨p0, c0, e, h0⟩ := h
  exact ⟨p0, c0, e, Mat.keep h0 hb⟩
theorem OwMirrorResult.off {w : World} {v : Value} {x : MMirrorResult} {b0 : List Nat} {w' : World} {cs : List Nat} (h : OwMirrorResult w v x b0) (hb : Off cs w w') (k : Dj (b0) cs) : OwMirrorResult w' v x b0 := by
  obtain ⟨p0, c0, e, h0⟩ := h
  exact ⟨p0, c0, e, Mat.off h0 hb (fun g hg => k g (by simp [hg]))⟩
theorem OwMirrorResult.lt {w : World} {v : Value} {x : MMirrorResult} {b0 : List Nat} (h : OwMirrorResult w v x b0) : ∀ g ∈ b0, g < w.heap.size := by
  obtain ⟨p0, c0, e, h0⟩ := h
  exact Mat.lt h0
theorem OwMirrorResult.shp {w : World} {v : Value} {x : MMirrorResult} {b0 : List Nat} (h : OwMirrorResult w v x b0) : ∃ p0 c0, v = .agg #[.int .i64 x.xCode, .int .i64 x.xMirror.xQ, .slice p0 x.xMirror.xViews.length c0] := by
  obtain ⟨p0, c0, e, _⟩ := h
  exact ⟨p0, c0, e⟩
theorem OwMirrorResult.alloc {w : World} {v : Value} {x : MMirrorResult} {b0 : List Nat} (h : OwMirrorResult w v x b0) (o : Obj) : OwMirrorResult (w.alloc o) v x b0 := h.keep ((Below.refl _ _).alloc (Nat.le_refl _) _)
theorem OwMirrorResult.drew {w : World} {v : Value} {x : MMirrorResult} {b0 : List Nat} (h : OwMirrorResult w v x b0) : OwMirrorResult w.drew v x b0 := h.keep (Below.refl _ _).drew
def totMirrorResult (x : MMirrorResult) : Nat := (totMirror x.xMirror)
def cntMirrorResult (x : MMirrorResult) : Nat := cntMirror x.xMirror
theorem cntMirrorResult_le (x : MMirrorResult) : cntMirrorResult x ≤ totMirrorResult x := by
  have := cntMirror_le x.xMirror
  unfold cntMirrorResult totMirrorResult
  omega
def mkMirrorResult (k : Int) (x : MMirrorResult) : MMirrorResult := { x with xMirror := mkMirror k x.xMirror }
-- Cheat
/-- the plain shape of Cheat -/
structure MCheat where
  xWho : Int
  xAt : Int
  xBy : Int
  xCry : Bool
def RdCheat (w : World) (v : Value) (x : MCheat) : Prop := v = .agg #[.int .i64 x.xWho, .int .i64 x.xAt, .int .i64 x.xBy, .bool x.xCry]
set_option maxHeartbeats 1000000 in
theorem eqCheat_rd (v u : Value) (x : MCheat) (w : World) (hv : RdCheat w v x) (hu : RdCheat w u x) :
    Calls Tryz.prog 47 #[v, u] w fun e w' => e = .returned (.bool true) ∧ Below w.heap.size w w' := by
  subst hv
  subst hu
  have B0 : Below w.heap.size w ((w.alloc (.cells #[.int .i64 x.xWho, .int .i64 x.xAt, .int .i64 x.xBy, .bool x.xCry] 38)).alloc (.cells #[.int .i64 x.xWho, .int .i64 x.xAt, .int .i64 x.xBy, .bool x.xCry] 38)) := (by repeat (first | exact Below.refl _ _ | refine Below.drew ?_ | refine below_drewN ?_ _ | refine Below.setCell ?_ (by first | omega | (simp; done) | (simp; omega)) _ | refine Below.alloc ?_ (by first | omega | (simp; done) | (simp; omega)) _))
  go_enter Tryz.func47, Tryz.ntmps47
  go_wp2
  go_ret
  exact ⟨rfl, B0⟩
set_option maxHeartbeats 2000000 in
set_option maxRecDepth 100000 in
theorem toCheat_ow (v : Value) (x : MCheat) (w : World) (hv : RdCheat w v x) :
    Calls Tryz.prog 37 #[v] w fun e w' => e = .returned (.agg #[.int .i64 x.xWho, .int .i64 x.xAt, .int .i64 x.xBy, .bool x.xCry]) ∧ Below w.heap.size w w' := by
  subst hv
  go_enter Tryz.func37, Tryz.ntmps37
  go_wp2
  exact bodyPost_ret (v := .agg #[.int .i64 x.xWho, .int .i64 x.xAt, .int .i64 x.xBy, .bool x.xCry]) (by simp [results, Tryz.results37, go_sem]) rfl ⟨rfl, (by repeat (first | exact Below.refl _ _ | refine Below.drew ?_ | refine below_drewN ?_ _ | refine Below.setCell ?_ (by first | omega | (simp; done) | (simp; omega)) _ | refine Below.alloc ?_ (by first | omega | (simp; done) | (simp; omega)) _))⟩
-- Quarrel
/-- the plain shape of Quarrel -/
structure MQuarrel where
  xSome : Bool
  xFrom : Int
  xCheck : Int
  xTo : Int
  xTold : Int
  xHeard : Int
  xOther : Int
  xVowed : Int
def RdQuarrel (w : World) (v : Value) (x : MQuarrel) : Prop := v = .agg #[.bool x.xSome, .int .i64 x.xFrom, .int .i64 x.xCheck, .int .i64 x.xTo, .int .i64 x.xTold, .int .i64 x.xHeard, .int .i64 x.xOther, .int .i64 x.xVowed]
set_option maxHeartbeats 1000000 in
theorem eqQuarrel_rd (v u : Value) (x : MQuarrel) (w : World) (hv : RdQuarrel w v x) (hu : RdQuarrel w u x) :
    Calls Tryz.prog 48 #[v, u] w fun e w' => e = .returned (.bool true) ∧ Below w.heap.size w w' := by
  subst hv
  subst hu
  have B0 : Below w.heap.size w ((w.alloc (.cells #[.bool x.xSome, .int .i64 x.xFrom, .int .i64 x.xCheck, .int .i64 x.xTo, .int .i64 x.xTold, .int .i64 x.xHeard, .int .i64 x.xOther, .int .i64 x.xVowed] 39)).alloc (.cells #[.bool x.xSome, .int .i64 x.xFrom, .int .i64 x.xCheck, .int .i64 x.xTo, .int .i64 x.xTold, .int .i64 x.xHeard, .int .i64 x.xOther, .int .i64 x.xVowed] 39)) := (by repeat (first | exact Below.refl _ _ | refine Below.drew ?_ | refine below_drewN ?_ _ | refine Below.setCell ?_ (by first | omega | (simp; done) | (simp; omega)) _ | refine Below.alloc ?_ (by first | omega | (simp; done) | (simp; omega)) _))
  go_enter Tryz.func48, Tryz.ntmps48
  go_wp2
  go_ret
  exact ⟨rfl, B0⟩
set_option maxHeartbeats 2000000 in
set_option maxRecDepth 100000 in
theorem toQuarrel_ow (v : Value) (x : MQuarrel) (w : World) (hv : RdQuarrel w v x) :
    Calls Tryz.prog 38 #[v] w fun e w' => e = .returned (.agg #[.bool x.xSome, .int .i64 x.xFrom, .int .i64 x.xCheck, .int .i64 x.xTo, .int .i64 x.xTold, .int .i64 x.xHeard, .int .i64 x.xOther, .int .i64 x.xVowed]) ∧ Below w.heap.size w w' := by
  subst hv
  go_enter Tryz.func38, Tryz.ntmps38
  go_wp2
  exact bodyPost_ret (v := .agg #[.bool x.xSome, .int .i64 x.xFrom, .int .i64 x.xCheck, .int .i64 x.xTo, .int .i64 x.xTold, .int .i64 x.xHeard, .int .i64 x.xOther, .int .i64 x.xVowed]) (by simp [results, Tryz.results38, go_sem]) rfl ⟨rfl, (by repeat (first | exact Below.refl _ _ | refine Below.drew ?_ | refine below_drewN ?_ _ | refine Below.setCell ?_ (by first | omega | (simp; done) | (simp; omega)) _ | refine Below.alloc ?_ (by first | omega | (simp; done) | (simp; omega)) _))⟩
-- Net
/-- the plain shape of Net -/
structure MNet where
  xTape : List (List Int)
  xUsed : List Int
  xSent : Int
  xHeard : List (List Int)
  xCheat : MCheat
  xQuarrel : MQuarrel
def RdNet (w : World) (v : Value) (x : MNet) : Prop := ∃ p0 c0 p1 c1 p2 c2, v = .agg #[.slice p0 x.xTape.length c0, .slice p1 x.xUsed.length c1, .int .i64 x.xSent, .slice p2 x.xHeard.length c2, .int .i64 x.xCheat.xWho, .int .i64 x.xCheat.xAt, .int .i64 x.xCheat.xBy, .bool x.xCheat.xCry, .bool x.xQuarrel.xSome, .int .i64 x.xQuarrel.xFrom, .int .i64 x.xQuarrel.xCheck, .int .i64 x.xQuarrel.xTo, .int .i64 x.xQuarrel.xTold, .int .i64 x.xQuarrel.xHeard, .int .i64 x.xQuarrel.xOther, .int .i64 x.xQuarrel.xVowed] ∧ ReadsM w (.slice p0 x.xTape.length c0) x.xTape ∧ Reads w .i64 (.slice p1 x.xUsed.length c1) x.xUsed ∧ ReadsM w (.slice p2 x.xHeard.length c2) x.xHeard
def OwNet (w : World) (v : Value) (x : MNet) (b0 b1 b2 : List Nat) : Prop := ∃ p0 c0 p1 c1 p2 c2, v = .agg #[.slice p0 x.xTape.length c0, .slice p1 x.xUsed.length c1, .int .i64 x.xSent, .slice p2 x.xHeard.length c2, .int .i64 x.xCheat.xWho, .int .i64 x.xCheat.xAt, .int .i64 x.xCheat.xBy, .bool x.xCheat.xCry, .bool x.xQuarrel.xSome, .int .i64 x.xQuarrel.xFrom, .int .i64 x.xQuarrel.xCheck, .int .i64 x.xQuarrel.xTo, .int .i64 x.xQuarrel.xTold, .int .i64 x.xQuarrel.xHeard, .int .i64 x.xQuarrel.xOther, .int .i64 x.xQuarrel.xVowed] ∧ Mat w (.slice p0 x.xTape.length c0) x.xTape b0 ∧ Ints w (.slice p1 x.xUsed.length c1) x.xUsed b1 ∧ Mat w (.slice p2 x.xHeard.length c2) x.xHeard b2 ∧ Dj b0 b1 ∧ Dj b0 b2 ∧ Dj b1 b2
theorem RdNet.below {w w' : World} {v : Value} {x : MNet} (h : RdNet w v x) (hb : Below w.heap.size w w') : RdNet w' v x := by
  obtain ⟨p0, c0, p1, c1, p2, c2, e, h0, h1, h2⟩ := h
  exact ⟨p0, c0, p1, c1, p2, c2, e, h0.below hb, h1.below hb, h2.below hb⟩
theorem OwNet.rd {w : World} {v : Value} {x : MNet} {b0 b1 b2 : List Nat} (h : OwNet w v x b0 b1 b2) : RdNet w v x := by
  obtain ⟨p0, c0, p1, c1, p2, c2, e, h0, h1, h2, d01, d02, d12⟩ := h
  exact ⟨p0, c0, p1, c1, p2, c2, e, Mat.reads h0, Ints.reads h1, Mat.reads h2⟩
theorem OwNet.keep {w : World} {v : Value} {x : MNet} {b0 b1 b2 : List Nat} {w' : World} (h : OwNet w v x b0 b1 b2) (hb : Below w.heap.size w w') : OwNet w' v x b0 b1 b2 := by
  obtain ⟨p0, c0, p1, c1, p2, c2, e, h0, h1, h2, d01, d02, d12⟩ := h
  exact ⟨p0, c0, p1, c1, p2, c2, e, Mat.keep h0 hb, Ints.keep h1 hb, Mat.keep h2 hb, d01, d02, d12⟩
theorem OwNet.off {w : World} {v : Value} {x : MNet} {b0 b1 b2 : List Nat} {w' : World} {cs : List Nat} (h : OwNet w v x b0 b1 b2) (hb : Off cs w w') (k : Dj (b0 ++ (b1 ++ b2)) cs) : OwNet w' v x b0 b1 b2 := by
  obtain ⟨p0, c0, p1, c1, p2, c2, e, h0, h1, h2, d01, d02, d12⟩ := h
  exact ⟨p0, c0, p1, c1, p2, c2, e, Mat.off h0 hb (fun g hg => k g (by simp [hg])), Ints.off h1 hb (fun g hg => k g (by simp [hg])), Mat.off h2 hb (fun g hg => k g (by simp [hg])), d01, d02, d12⟩
theorem OwNet.lt {w : World} {v : Value} {x : MNet} {b0 b1 b2 : List Nat} (h : OwNet w v x b0 b1 b2) : ∀ g ∈ (b0 ++ (b1 ++ b2)), g < w.heap.size := by
  obtain ⟨p0, c0, p1, c1, p2, c2, e, h0, h1, h2, d01, d02, d12⟩ := h
  intro g hg
  simp only [List.mem_append] at hg
  rcases hg with hg | hg | hg
  · exact Mat.lt h0 g hg
  · exact Ints.lt h1 g hg
  · exact Mat.lt h2 g hg
theorem OwNet.shp {w : World} {v : Value} {x : MNet} {b0 b1 b2 : List Nat} (h : OwNet w v x b0 b1 b2) : ∃ p0 c0 p1 c1 p2 c2, v = .agg #[.slice p0 x.xTape.length c0, .slice p1 x.xUsed.length c1, .int .i64 x.xSent, .slice p2 x.xHeard.length c2, .int .i64 x.xCheat.xWho, .int .i64 x.xCheat.xAt, .int .i64 x.xCheat.xBy, .bool x.xCheat.xCry, .bool x.xQuarrel.xSome, .int .i64 x.xQuarrel.xFrom, .int .i64 x.xQuarrel.xCheck, .int .i64 x.xQuarrel.xTo, .int .i64 x.xQuarrel.xTold, .int .i64 x.xQuarrel.xHeard, .int .i64 x.xQuarrel.xOther, .int .i64 x.xQuarrel.xVowed] := by
  obtain ⟨p0, c0, p1, c1, p2, c2, e, _⟩ := h
  exact ⟨p0, c0, p1, c1, p2, c2, e⟩
theorem OwNet.alloc {w : World} {v : Value} {x : MNet} {b0 b1 b2 : List Nat} (h : OwNet w v x b0 b1 b2) (o : Obj) : OwNet (w.alloc o) v x b0 b1 b2 := h.keep ((Below.refl _ _).alloc (Nat.le_refl _) _)
theorem OwNet.drew {w : World} {v : Value} {x : MNet} {b0 b1 b2 : List Nat} (h : OwNet w v x b0 b1 b2) : OwNet w.drew v x b0 b1 b2 := h.keep (Below.refl _ _).drew
def totNet (x : MNet) : Nat := (totTape x.xTape) + x.xUsed.length + (tot x.xHeard)
def cntNet (x : MNet) : Nat := cntTape x.xTape + x.xUsed.length + sl x.xHeard
theorem cntNet_le (x : MNet) : cntNet x ≤ totNet x := by
  have := cntTape_le x.xTape
  have := sl_le_tot x.xHeard
  unfold cntNet totNet
  omega
def mkNet (k : Int) (x : MNet) : MNet := { x with xTape := mkTape k x.xTape, xUsed := marks (k + (cntTape x.xTape : Nat)) x.xUsed.length, xHeard := marksM ((k + (cntTape x.xTape : Nat)) + (x.xUsed.length : Nat)) x.xHeard }
set_option maxHeartbeats 1000000 in
theorem eqNet_rd (v u : Value) (x : MNet) (w : World) (hv : RdNet w v x) (hu : RdNet w u x) :
    Calls Tryz.prog 12 #[v, u] w fun e w' => e = .returned (.bool true) ∧ Below w.heap.size w w' := by
  obtain ⟨p0, c0, p1, c1, p2, c2, rfl, h0, h1, h2⟩ := hv
  obtain ⟨q0, d0, q1, d1, q2, d2, rfl, k0, k1, k2⟩ := hu
  have B0 : Below w.heap.size w ((w.alloc (.cells #[.slice p0 x.xTape.length c0, .slice p1 x.xUsed.length c1, .int .i64 x.xSent, .slice p2 x.xHeard.length c2, .int .i64 x.xCheat.xWho, .int .i64 x.xCheat.xAt, .int .i64 x.xCheat.xBy, .bool x.xCheat.xCry, .bool x.xQuarrel.xSome, .int .i64 x.xQuarrel.xFrom, .int .i64 x.xQuarrel.xCheck, .int .i64 x.xQuarrel.xTo, .int .i64 x.xQuarrel.xTold, .int .i64 x.xQuarrel.xHeard, .int .i64 x.xQuarrel.xOther, .int .i64 x.xQuarrel.xVowed] 41)).alloc (.cells #[.slice q0 x.xTape.length d0, .slice q1 x.xUsed.length d1, .int .i64 x.xSent, .slice q2 x.xHeard.length d2, .int .i64 x.xCheat.xWho, .int .i64 x.xCheat.xAt, .int .i64 x.xCheat.xBy, .bool x.xCheat.xCry, .bool x.xQuarrel.xSome, .int .i64 x.xQuarrel.xFrom, .int .i64 x.xQuarrel.xCheck, .int .i64 x.xQuarrel.xTo, .int .i64 x.xQuarrel.xTold, .int .i64 x.xQuarrel.xHeard, .int .i64 x.xQuarrel.xOther, .int .i64 x.xQuarrel.xVowed] 41)) := (by repeat (first | exact Below.refl _ _ | refine Below.drew ?_ | refine below_drewN ?_ _ | refine Below.setCell ?_ (by first | omega | (simp; done) | (simp; omega)) _ | refine Below.alloc ?_ (by first | omega | (simp; done) | (simp; omega)) _))
  have X0 := (Blk.new w 41 #[.slice p0 x.xTape.length c0, .slice p1 x.xUsed.length c1, .int .i64 x.xSent, .slice p2 x.xHeard.length c2, .int .i64 x.xCheat.xWho, .int .i64 x.xCheat.xAt, .int .i64 x.xCheat.xBy, .bool x.xCheat.xCry, .bool x.xQuarrel.xSome, .int .i64 x.xQuarrel.xFrom, .int .i64 x.xQuarrel.xCheck, .int .i64 x.xQuarrel.xTo, .int .i64 x.xQuarrel.xTold, .int .i64 x.xQuarrel.xHeard, .int .i64 x.xQuarrel.xOther, .int .i64 x.xQuarrel.xVowed]).alloc (.cells #[.slice q0 x.xTape.length d0, .slice q1 x.xUsed.length d1, .int .i64 x.xSent, .slice q2 x.xHeard.length d2, .int .i64 x.xCheat.xWho, .int .i64 x.xCheat.xAt, .int .i64 x.xCheat.xBy, .bool x.xCheat.xCry, .bool x.xQuarrel.xSome, .int .i64 x.xQuarrel.xFrom, .int .i64 x.xQuarrel.xCheck, .int .i64 x.xQuarrel.xTo, .int .i64 x.xQuarrel.xTold, .int .i64 x.xQuarrel.xHeard, .int .i64 x.xQuarrel.xOther, .int .i64 x.xQuarrel.xVowed] 41)
  have Y0 : Blk ((w.alloc (.cells #[.slice p0 x.xTape.length c0, .slice p1 x.xUsed.length c1, .int .i64 x.xSent, .slice p2 x.xHeard.length c2, .int .i64 x.xCheat.xWho, .int .i64 x.xCheat.xAt, .int .i64 x.xCheat.xBy, .bool x.xCheat.xCry, .bool x.xQuarrel.xSome, .int .i64 x.xQuarrel.xFrom, .int .i64 x.xQuarrel.xCheck, .int .i64 x.xQuarrel.xTo, .int .i64 x.xQuarrel.xTold, .int .i64 x.xQuarrel.xHeard, .int .i64 x.xQuarrel.xOther, .int .i64 x.xQuarrel.xVowed] 41)).alloc (.cells #[.slice q0 x.xTape.length d0, .slice q1 x.xUsed.length d1, .int .i64 x.xSent, .slice q2 x.xHeard.length d2, .int .i64 x.xCheat.xWho, .int .i64 x.xCheat.xAt, .int .i64 x.xCheat.xBy, .bool x.xCheat.xCry, .bool x.xQuarrel.xSome, .int .i64 x.xQuarrel.xFrom, .int .i64 x.xQuarrel.xCheck, .int .i64 x.xQuarrel.xTo, .int .i64 x.xQuarrel.xTold, .int .i64 x.xQuarrel.xHeard, .int .i64 x.xQuarrel.xOther, .int .i64 x.xQuarrel.xVowed] 41)) (w.heap.size + 1) 41 #[.slice q0 x.xTape.length d0, .slice q1 x.xUsed.length d1, .int .i64 x.xSent, .slice q2 x.xHeard.length d2, .int .i64 x.xCheat.xWho, .int .i64 x.xCheat.xAt, .int .i64 x.xCheat.xBy, .bool x.xCheat.xCry, .bool x.xQuarrel.xSome, .int .i64 x.xQuarrel.xFrom, .int .i64 x.xQuarrel.xCheck, .int .i64 x.xQuarrel.xTo, .int .i64 x.xQuarrel.xTold, .int .i64 x.xQuarrel.xHeard, .int .i64 x.xQuarrel.xOther, .int .i64 x.xQuarrel.xVowed] := by simpa using Blk.new (w.alloc (.cells #[.slice p0 x.xTape.length c0, .slice p1 x.xUsed.length c1, .int .i64 x.xSent, .slice p2 x.xHeard.length c2, .int .i64 x.xCheat.xWho, .int .i64 x.xCheat.xAt, .int .i64 x.xCheat.xBy, .bool x.xCheat.xCry, .bool x.xQuarrel.xSome, .int .i64 x.xQuarrel.xFrom, .int .i64 x.xQuarrel.xCheck, .int .i64 x.xQuarrel.xTo, .int .i64 x.xQuarrel.xTold, .int .i64 x.xQuarrel.xHeard, .int .i64 x.xQuarrel.xOther, .int .i64 x.xQuarrel.xVowed] 41)) 41 #[.slice q0 x.xTape.length d0, .slice q1 x.xUsed.length d1, .int .i64 x.xSent, .slice q2 x.xHeard.length d2, .int .i64 x.xCheat.xWho, .int .i64 x.xCheat.xAt, .int .i64 x.xCheat.xBy, .bool x.xCheat.xCry, .bool x.xQuarrel.xSome, .int .i64 x.xQuarrel.xFrom, .int .i64 x.xQuarrel.xCheck, .int .i64 x.xQuarrel.xTo, .int .i64 x.xQuarrel.xTold, .int .i64 x.xQuarrel.xHeard, .int .i64 x.xQuarrel.xOther, .int .i64 x.xQuarrel.xVowed]
  replace h0 := h0.below B0
  replace k0 := k0.below B0
  replace h1 := h1.below B0
  replace k1 := k1.below B0
  replace h2 := h2.below B0
  replace k2 := k2.below B0
  go_enter Tryz.func12, Tryz.ntmps12
  go_wp2_with fail
  refine (eqTape_rd _ _ x.xTape _ (by exact ⟨p0, c0, rfl, h0⟩) (by exact ⟨q0, d0, rfl, k0⟩)).mono ?_
  rintro e w1 ⟨rfl, hb1⟩
  have X1 := X0.keep hb1
  have Y1 := Y0.keep hb1
  have B1 : Below w.heap.size w w1 := B0.trans (hb1.mono B0.size)
  replace h0 := h0.below hb1
  replace k0 := k0.below hb1
  replace h1 := h1.below hb1
  replace k1 := k1.below hb1
  replace h2 := h2.below hb1
  replace k2 := k2.below hb1
  clear X0 Y0
  have xa := X1.at.1
  have ya := Y1.at.1
  go_wp2_with fail
  clear xa ya
  refine (eqInt64S_rd _ _ x.xUsed _ (by exact h1) (by exact k1)).mono ?_
  rintro e w2 ⟨rfl, hb2⟩
  have X2 := X1.keep hb2
  have Y2 := Y1.keep hb2
  have B2 : Below w.heap.size w w2 := B1.trans (hb2.mono B1.size)
  replace h0 := h0.below hb2
  replace k0 := k0.below hb2
  replace h1 := h1.below hb2
  replace k1 := k1.below hb2
  replace h2 := h2.below hb2
  replace k2 := k2.below hb2
  clear X1 Y1
  have xa := X2.at.1
  have ya := Y2.at.1
  go_wp2_with fail
  clear xa ya
  refine (eqInt64SS_rd _ _ x.xHeard _ (by exact h2) (by exact k2)).mono ?_
  rintro e w3 ⟨rfl, hb3⟩
  have X3 := X2.keep hb3
  have Y3 := Y2.keep hb3
  have B3 : Below w.heap.size w w3 := B2.trans (hb3.mono B2.size)
  replace h0 := h0.below hb3
  replace k0 := k0.below hb3
  replace h1 := h1.below hb3
  replace k1 := k1.below hb3
  replace h2 := h2.below hb3
  replace k2 := k2.below hb3
  clear X2 Y2
  have xa := X3.at.1
  have ya := Y3.at.1
  go_wp2_with fail
  clear xa ya
  refine (eqCheat_rd _ _ x.xCheat _ (by exact rfl) (by exact rfl)).mono ?_
  rintro e w4 ⟨rfl, hb4⟩
  have X4 := X3.keep hb4
  have Y4 := Y3.keep hb4
  have B4 : Below w.heap.size w w4 := B3.trans (hb4.mono B3.size)
  replace h0 := h0.below hb4
  replace k0 := k0.below hb4
  replace h1 := h1.below hb4
  replace k1 := k1.below hb4
  replace h2 := h2.below hb4
  replace k2 := k2.below hb4
  clear X3 Y3
  have xa := X4.at.1
  have ya := Y4.at.1
  go_wp2_with fail
  clear xa ya
  refine (eqQuarrel_rd _ _ x.xQuarrel _ (by exact rfl) (by exact rfl)).mono ?_
  rintro e w5 ⟨rfl, hb5⟩
  have X5 := X4.keep hb5
  have Y5 := Y4.keep hb5
  have B5 : Below w.heap.size w w5 := B4.trans (hb5.mono B4.size)
  replace h0 := h0.below hb5
  replace k0 := k0.below hb5
  replace h1 := h1.below hb5
  replace k1 := k1.below hb5
  replace h2 := h2.below hb5
  replace k2 := k2.below hb5
  clear X4 Y4
  have xa := X5.at.1
  have ya := Y5.at.1
  go_wp2
  go_ret
  exact ⟨rfl, B5⟩
set_option maxHeartbeats 1000000 in
theorem markNet_ow (v : Value) (x : MNet) (b0 b1 b2 : List Nat) (k : Int) (w : World) (hv : OwNet w v x b0 b1 b2) (hk : 0 ≤ k) (hk' : k + (cntNet x : Nat) ≤ 536870912) :
    Calls Tryz.prog 14 #[v, .int .i64 k] w fun e w' => e = .returned (.int .i64 (k + (cntNet x : Nat))) ∧ OwNet w' v (mkNet k x) b0 b1 b2 ∧ Off (b0 ++ (b1 ++ b2)) w w' := by
  obtain ⟨p0, c0, p1, c1, p2, c2, rfl, h0, h1, h2, d01, d02, d12⟩ := hv
  have X0 := Blk.new w 41 #[.slice p0 x.xTape.length c0, .slice p1 x.xUsed.length c1, .int .i64 x.xSent, .slice p2 x.xHeard.length c2, .int .i64 x.xCheat.xWho, .int .i64 x.xCheat.xAt, .int .i64 x.xCheat.xBy, .bool x.xCheat.xCry, .bool x.xQuarrel.xSome, .int .i64 x.xQuarrel.xFrom, .int .i64 x.xQuarrel.xCheck, .int .i64 x.xQuarrel.xTo, .int .i64 x.xQuarrel.xTold, .int .i64 x.xQuarrel.xHeard, .int .i64 x.xQuarrel.xOther, .int .i64 x.xQuarrel.xVowed]
  have n0 : w.heap.size ∉ b0 := fun h => Nat.lt_irrefl _ (Mat.lt h0 _ h)
  have n1 : w.heap.size ∉ b1 := fun h => Nat.lt_irrefl _ (Ints.lt h1 _ h)
  have n2 : w.heap.size ∉ b2 := fun h => Nat.lt_irrefl _ (Mat.lt h2 _ h)
  replace h0 := Mat.alloc h0 (.cells #[.slice p0 x.xTape.length c0, .slice p1 x.xUsed.length c1, .int .i64 x.xSent, .slice p2 x.xHeard.length c2, .int .i64 x.xCheat.xWho, .int .i64 x.xCheat.xAt, .int .i64 x.xCheat.xBy, .bool x.xCheat.xCry, .bool x.xQuarrel.xSome, .int .i64 x.xQuarrel.xFrom, .int .i64 x.xQuarrel.xCheck, .int .i64 x.xQuarrel.xTo, .int .i64 x.xQuarrel.xTold, .int .i64 x.xQuarrel.xHeard, .int .i64 x.xQuarrel.xOther, .int .i64 x.xQuarrel.xVowed] 41)
  replace h1 := Ints.alloc h1 (.cells #[.slice p0 x.xTape.length c0, .slice p1 x.xUsed.length c1, .int .i64 x.xSent, .slice p2 x.xHeard.length c2, .int .i64 x.xCheat.xWho, .int .i64 x.xCheat.xAt, .int .i64 x.xCheat.xBy, .bool x.xCheat.xCry, .bool x.xQuarrel.xSome, .int .i64 x.xQuarrel.xFrom, .int .i64 x.xQuarrel.xCheck, .int .i64 x.xQuarrel.xTo, .int .i64 x.xQuarrel.xTold, .int .i64 x.xQuarrel.xHeard, .int .i64 x.xQuarrel.xOther, .int .i64 x.xQuarrel.xVowed] 41)
  replace h2 := Mat.alloc h2 (.cells #[.slice p0 x.xTape.length c0, .slice p1 x.xUsed.length c1, .int .i64 x.xSent, .slice p2 x.xHeard.length c2, .int .i64 x.xCheat.xWho, .int .i64 x.xCheat.xAt, .int .i64 x.xCheat.xBy, .bool x.xCheat.xCry, .bool x.xQuarrel.xSome, .int .i64 x.xQuarrel.xFrom, .int .i64 x.xQuarrel.xCheck, .int .i64 x.xQuarrel.xTo, .int .i64 x.xQuarrel.xTold, .int .i64 x.xQuarrel.xHeard, .int .i64 x.xQuarrel.xOther, .int .i64 x.xQuarrel.xVowed] 41)
  have O0 : Off (b0 ++ (b1 ++ b2)) w (w.alloc (.cells #[.slice p0 x.xTape.length c0, .slice p1 x.xUsed.length c1, .int .i64 x.xSent, .slice p2 x.xHeard.length c2, .int .i64 x.xCheat.xWho, .int .i64 x.xCheat.xAt, .int .i64 x.xCheat.xBy, .bool x.xCheat.xCry, .bool x.xQuarrel.xSome, .int .i64 x.xQuarrel.xFrom, .int .i64 x.xQuarrel.xCheck, .int .i64 x.xQuarrel.xTo, .int .i64 x.xQuarrel.xTold, .int .i64 x.xQuarrel.xHeard, .int .i64 x.xQuarrel.xOther, .int .i64 x.xQuarrel.xVowed] 41)) := (Off.refl _ _).alloc _
  have HC : Hid (cntNet x = cntTape x.xTape + x.xUsed.length + sl x.xHeard) := rfl
  have hk'' := hk'
  rw [HC.out] at hk''
  clear hk'
  have C0 : Hid (cntTape x.xTape = cntTape x.xTape) := rfl
  have C1 : Hid (x.xUsed.length = x.xUsed.length) := rfl
  have C2 : Hid (sl x.xHeard = sl x.xHeard) := rfl
  go_enter Tryz.func14, Tryz.ntmps14
  go_wp2_with fail
  refine (markTape_ow _ x.xTape b0 _ _ (by exact ⟨p0, c0, rfl, h0⟩) (by omega) (by omega)).mono ?_
  rintro e w1 ⟨rfl, m0, o1⟩
  have X1 := X0.off o1 (by simp [n0])
  have O1 := O0.trans (o1.mono (fun g hg => by simp [hg]))
  replace h1 := Ints.off h1 o1 (d01.symm)
  replace h2 := Mat.off h2 o1 (d02.symm)
  have xa := X1.at.1
  go_wp2_with fail
  clear xa
  refine (markInt64S_ow _ x.xUsed b1 _ _ (by exact h1) (by omega) (by omega)).mono ?_
  rintro e w2 ⟨rfl, m1, o2⟩
  have X2 := X1.off o2 (by simp [n1])
  have O2 := O1.trans (o2.mono (fun g hg => by simp [hg]))
  replace h2 := Mat.off h2 o2 (d12.symm)
  replace m0 := OwTape.off m0 o2 (d01)
  have xa := X2.at.1
  go_wp2_with fail
  clear xa
  refine (markInt64SS_ow _ x.xHeard b2 _ _ (by exact h2) (by omega) (by omega)).mono ?_
  rintro e w3 ⟨rfl, m2, o3⟩
  have O3 := O2.trans (o3.mono (fun g hg => by simp [hg]))
  replace m0 := OwTape.off m0 o3 (d02)
  replace m1 := Ints.off m1 o3 (d12)
  go_wp2
  go_ret
  refine ⟨by rw [HC.out]; go_num, ?_, O3⟩
  obtain ⟨P0, Q0, e0, m0_0⟩ := m0
  simp [mkTape, marksM_length] at e0
  obtain ⟨rfl, rfl⟩ := e0
  refine ⟨p0, c0, p1, c1, p2, c2, by simp [mkNet, mkTape, marksM_length, marks_length], ?_, ?_, ?_, d01, d02, d12⟩
  · simpa [mkNet, mkTape, marksM_length, marks_length] using m0_0
  · simpa [mkNet, mkTape, marksM_length, marks_length] using m1
  · simpa [mkNet, mkTape, marksM_length, marks_length] using m2
set_option maxHeartbeats 1000000 in
theorem heldNet_rd (v : Value) (x : MNet) (k : Int) (w : World) (hv : RdNet w v (mkNet k x)) (hk : 0 ≤ k) (hk' : k + (cntNet x : Nat) ≤ 536870912) :
    Calls Tryz.prog 53 #[v, .int .i64 k] w fun e w' => e = .returned (.int .i64 (k + (cntNet x : Nat))) ∧ Below w.heap.size w w' := by
  obtain ⟨p0, c0, p1, c1, p2, c2, rfl, h0, h1, h2⟩ := hv
  have X0 := Blk.new w 41 #[.slice p0 (mkNet k x).xTape.length c0, .slice p1 (mkNet k x).xUsed.length c1, .int .i64 (mkNet k x).xSent, .slice p2 (mkNet k x).xHeard.length c2, .int .i64 (mkNet k x).xCheat.xWho, .int .i64 (mkNet k x).xCheat.xAt, .int .i64 (mkNet k x).xCheat.xBy, .bool (mkNet k x).xCheat.xCry, .bool (mkNet k x).xQuarrel.xSome, .int .i64 (mkNet k x).xQuarrel.xFrom, .int .i64 (mkNet k x).xQuarrel.xCheck, .int .i64 (mkNet k x).xQuarrel.xTo, .int .i64 (mkNet k x).xQuarrel.xTold, .int .i64 (mkNet k x).xQuarrel.xHeard, .int .i64 (mkNet k x).xQuarrel.xOther, .int .i64 (mkNet k x).xQuarrel.xVowed]
  have B0 : Below w.heap.size w (w.alloc (.cells #[.slice p0 (mkNet k x).xTape.length c0, .slice p1 (mkNet k x).xUsed.length c1, .int .i64 (mkNet k x).xSent, .slice p2 (mkNet k x).xHeard.length c2, .int .i64 (mkNet k x).xCheat.xWho, .int .i64 (mkNet k x).xCheat.xAt, .int .i64 (mkNet k x).xCheat.xBy, .bool (mkNet k x).xCheat.xCry, .bool (mkNet k x).xQuarrel.xSome, .int .i64 (mkNet k x).xQuarrel.xFrom, .int .i64 (mkNet k x).xQuarrel.xCheck, .int .i64 (mkNet k x).xQuarrel.xTo, .int .i64 (mkNet k x).xQuarrel.xTold, .int .i64 (mkNet k x).xQuarrel.xHeard, .int .i64 (mkNet k x).xQuarrel.xOther, .int .i64 (mkNet k x).xQuarrel.xVowed] 41)) := (by repeat (first | exact Below.refl _ _ | refine Below.drew ?_ | refine below_drewN ?_ _ | refine Below.setCell ?_ (by first | omega | (simp; done) | (simp; omega)) _ | refine Below.alloc ?_ (by first | omega | (simp; done) | (simp; omega)) _))
  replace h0 := h0.below B0
  replace h1 := h1.below B0
  replace h2 := h2.below B0
  have HC : Hid (cntNet x = cntTape x.xTape + x.xUsed.length + sl x.xHeard) := rfl
  have hk'' := hk'
  rw [HC.out] at hk''
  clear hk'
  go_enter Tryz.func53, Tryz.ntmps53
  go_wp2_with fail
  refine (heldTape_rd _ x.xTape _ _ (by exact ⟨p0, c0, rfl, h0⟩) (by omega) (by omega)).mono ?_
  rintro e w1 ⟨rfl, hb1⟩
  have X1 := X0.keep hb1
  have B1 : Below w.heap.size w w1 := B0.trans (hb1.mono B0.size)
  replace h1 := h1.below hb1
  replace h2 := h2.below hb1
  have xa := X1.at.1
  go_wp2_with fail
  clear xa
  refine (heldInt64S_rd _ x.xUsed _ _ (by exact h1) (by omega) (by omega)).mono ?_
  rintro e w2 ⟨rfl, hb2⟩
  have X2 := X1.keep hb2
  have B2 : Below w.heap.size w w2 := B1.trans (hb2.mono B1.size)
  replace h2 := h2.below hb2
  have xa := X2.at.1
  go_wp2_with fail
  clear xa
  refine (heldInt64SS_rd _ x.xHeard _ _ (by exact h2) (by omega) (by omega)).mono ?_
  rintro e w3 ⟨rfl, hb3⟩
  have B3 : Below w.heap.size w w3 := B2.trans (hb3.mono B2.size)
  go_wp2
  go_ret
  exact ⟨by rw [HC.out]; go_num, B3⟩
set_option maxHeartbeats 1000000 in
theorem szNet_fit (v : Value) (x : MNet) (left : Int) (w : World) (hv : RdNet w v x) (h0 : 0 ≤ left) (h' : left ≤ 1048576) (h : (totNet x : Int) ≤ left) :
    Calls Tryz.prog 5 #[v, .int .i64 left] w fun e w' => e = .returned (.int .i64 (left - (totNet x : Nat))) ∧ Below w.heap.size w w' := by
  obtain ⟨p0, c0, p1, c1, p2, c2, rfl, r0, r1, r2⟩ := hv
  have X0 := Blk.new w 31 #[.slice p0 x.xTape.length c0, .slice p1 x.xUsed.length c1, .int .i64 x.xSent, .slice p2 x.xHeard.length c2, .int .i64 x.xCheat.xWho, .int .i64 x.xCheat.xAt, .int .i64 x.xCheat.xBy, .bool x.xCheat.xCry, .bool x.xQuarrel.xSome, .int .i64 x.xQuarrel.xFrom, .int .i64 x.xQuarrel.xCheck, .int .i64 x.xQuarrel.xTo, .int .i64 x.xQuarrel.xTold, .int .i64 x.xQuarrel.xHeard, .int .i64 x.xQuarrel.xOther, .int .i64 x.xQuarrel.xVowed]
  have B0 : Below w.heap.size w (w.alloc (.cells #[.slice p0 x.xTape.length c0, .slice p1 x.xUsed.length c1, .int .i64 x.xSent, .slice p2 x.xHeard.length c2, .int .i64 x.xCheat.xWho, .int .i64 x.xCheat.xAt, .int .i64 x.xCheat.xBy, .bool x.xCheat.xCry, .bool x.xQuarrel.xSome, .int .i64 x.xQuarrel.xFrom, .int .i64 x.xQuarrel.xCheck, .int .i64 x.xQuarrel.xTo, .int .i64 x.xQuarrel.xTold, .int .i64 x.xQuarrel.xHeard, .int .i64 x.xQuarrel.xOther, .int .i64 x.xQuarrel.xVowed] 31)) := (by repeat (first | exact Below.refl _ _ | refine Below.drew ?_ | refine below_drewN ?_ _ | refine Below.setCell ?_ (by first | omega | (simp; done) | (simp; omega)) _ | refine Below.alloc ?_ (by first | omega | (simp; done) | (simp; omega)) _))
  replace r0 := r0.below B0
  replace r1 := r1.below B0
  replace r2 := r2.below B0
  have HC : Hid (totNet x = (totTape x.xTape) + (x.xUsed.length) + (tot x.xHeard)) := rfl
  have hh := h
  rw [HC.out] at hh
  clear h
  go_enter Tryz.func5, Tryz.ntmps5
  go_wp2_with fail
  refine (szTape_fit _ x.xTape _ _ (by exact ⟨p0, c0, rfl, r0⟩) (by omega) (by omega) (by omega)).mono ?_
  rintro e w1 ⟨rfl, hb1⟩
  have X1 := X0.keep hb1
  have B1 : Below w.heap.size w w1 := B0.trans (hb1.mono B0.size)
  replace r1 := r1.below hb1
  replace r2 := r2.below hb1
  have xa := X1.at.1
  go_wp2_with fail
  clear xa
  refine (szInt64S_fit _ x.xUsed _ _ (by exact r1) (by omega) (by omega) (by omega)).mono ?_
  rintro e w2 ⟨rfl, hb2⟩
  have X2 := X1.keep hb2
  have B2 : Below w.heap.size w w2 := B1.trans (hb2.mono B1.size)
  replace r2 := r2.below hb2
  have xa := X2.at.1
  go_wp2_with fail
  clear xa
  refine (szInt64SS_fit _ x.xHeard _ _ (by exact r2) (by omega) (by omega) (by omega)).mono ?_
  rintro e w3 ⟨rfl, hb3⟩
  have X3 := X2.keep hb3
  have B3 : Below w.heap.size w w3 := B2.trans (hb3.mono B2.size)
  go_wp2
  go_ret
  exact ⟨by rw [HC.out]; go_num, B3⟩
set_option maxHeartbeats 1000000 in
theorem szNet_over (v : Value) (x : MNet) (left : Int) (w : World) (hv : RdNet w v x) (h0 : 0 ≤ left) (h' : left ≤ 1048576) (h : left < (totNet x : Int)) :
    Calls Tryz.prog 5 #[v, .int .i64 left] w fun e w' => e = .returned (.int .i64 (-1)) ∧ Below w.heap.size w w' := by
  obtain ⟨p0, c0, p1, c1, p2, c2, rfl, r0, r1, r2⟩ := hv
  have X0 := Blk.new w 31 #[.slice p0 x.xTape.length c0, .slice p1 x.xUsed.length c1, .int .i64 x.xSent, .slice p2 x.xHeard.length c2, .int .i64 x.xCheat.xWho, .int .i64 x.xCheat.xAt, .int .i64 x.xCheat.xBy, .bool x.xCheat.xCry, .bool x.xQuarrel.xSome, .int .i64 x.xQuarrel.xFrom, .int .i64 x.xQuarrel.xCheck, .int .i64 x.xQuarrel.xTo, .int .i64 x.xQuarrel.xTold, .int .i64 x.xQuarrel.xHeard, .int .i64 x.xQuarrel.xOther, .int .i64 x.xQuarrel.xVowed]
  have B0 : Below w.heap.size w (w.alloc (.cells #[.slice p0 x.xTape.length c0, .slice p1 x.xUsed.length c1, .int .i64 x.xSent, .slice p2 x.xHeard.length c2, .int .i64 x.xCheat.xWho, .int .i64 x.xCheat.xAt, .int .i64 x.xCheat.xBy, .bool x.xCheat.xCry, .bool x.xQuarrel.xSome, .int .i64 x.xQuarrel.xFrom, .int .i64 x.xQuarrel.xCheck, .int .i64 x.xQuarrel.xTo, .int .i64 x.xQuarrel.xTold, .int .i64 x.xQuarrel.xHeard, .int .i64 x.xQuarrel.xOther, .int .i64 x.xQuarrel.xVowed] 31)) := (by repeat (first | exact Below.refl _ _ | refine Below.drew ?_ | refine below_drewN ?_ _ | refine Below.setCell ?_ (by first | omega | (simp; done) | (simp; omega)) _ | refine Below.alloc ?_ (by first | omega | (simp; done) | (simp; omega)) _))
  replace r0 := r0.below B0
  replace r1 := r1.below B0
  replace r2 := r2.below B0
  have HC : Hid (totNet x = (totTape x.xTape) + (x.xUsed.length) + (tot x.xHeard)) := rfl
  have hh := h
  rw [HC.out] at hh
  clear h
  by_cases g0 : left < ((totTape x.xTape : Nat) : Int)
  · go_enter Tryz.func5, Tryz.ntmps5
    go_wp2_with fail
    refine (szTape_over _ x.xTape _ _ (by exact ⟨p0, c0, rfl, r0⟩) (by omega) (by omega) (by omega)).mono ?_
    rintro e w1 ⟨rfl, hb1⟩
    have X1 := X0.keep hb1
    have B1 : Below w.heap.size w w1 := B0.trans (hb1.mono B0.size)
    replace r1 := r1.below hb1
    replace r2 := r2.below hb1
    go_wp2
    go_ret
    exact ⟨rfl, B1⟩
  · have _t := g0
    by_cases g1 : left < ((totTape x.xTape : Nat) : Int) + ((x.xUsed.length : Nat) : Int)
    · go_enter Tryz.func5, Tryz.ntmps5
      go_wp2_with fail
      refine (szTape_fit _ x.xTape _ _ (by exact ⟨p0, c0, rfl, r0⟩) (by omega) (by omega) (by omega)).mono ?_
      rintro e w1 ⟨rfl, hb1⟩
      have X1 := X0.keep hb1
      have B1 : Below w.heap.size w w1 := B0.trans (hb1.mono B0.size)
      replace r1 := r1.below hb1
      replace r2 := r2.below hb1
      have xa := X1.at.1
      go_wp2_with fail
      clear xa
      refine (szInt64S_over _ x.xUsed _ _ (by exact r1) (by omega) (by omega) (by omega)).mono ?_
      rintro e w2 ⟨rfl, hb2⟩
      have X2 := X1.keep hb2
      have B2 : Below w.heap.size w w2 := B1.trans (hb2.mono B1.size)
      replace r2 := r2.below hb2
      go_wp2
      go_ret
      exact ⟨rfl, B2⟩
    · have _t := g1
      go_enter Tryz.func5, Tryz.ntmps5
      go_wp2_with fail
      refine (szTape_fit _ x.xTape _ _ (by exact ⟨p0, c0, rfl, r0⟩) (by omega) (by omega) (by omega)).mono ?_
      rintro e w1 ⟨rfl, hb1⟩
      have X1 := X0.keep hb1
      have B1 : Below w.heap.size w w1 := B0.trans (hb1.mono B0.size)
      replace r1 := r1.below hb1
      replace r2 := r2.below hb1
      have xa := X1.at.1
      go_wp2_with fail
      clear xa
      refine (szInt64S_fit _ x.xUsed _ _ (by exact r1) (by omega) (by omega) (by omega)).mono ?_
      rintro e w2 ⟨rfl, hb2⟩
      have X2 := X1.keep hb2
      have B2 : Below w.heap.size w w2 := B1.trans (hb2.mono B1.size)
      replace r2 := r2.below hb2
      have xa := X2.at.1
      go_wp2_with fail
      clear xa
      refine (szInt64SS_over _ x.xHeard _ _ (by exact r2) (by omega) (by omega) (by omega)).mono ?_
      rintro e w3 ⟨rfl, hb3⟩
      have X3 := X2.keep hb3
      have B3 : Below w.heap.size w w3 := B2.trans (hb3.mono B2.size)
      go_wp2
      go_ret
      exact ⟨rfl, B3⟩
set_option maxHeartbeats 2000000 in
set_option maxRecDepth 100000 in
theorem toNet_ow (v : Value) (x : MNet) (w : World) (hv : RdNet w v x) (hl : totNet x ≤ 1048576) :
    Calls Tryz.prog 8 #[v] w fun e w' => ∃ u b0 b1 b2, e = .returned u ∧ OwNet w' u x b0 b1 b2 ∧ (∀ y ∈ b0, w.heap.size ≤ y) ∧ (∀ y ∈ b1, w.heap.size ≤ y) ∧ (∀ y ∈ b2, w.heap.size ≤ y) ∧ Below w.heap.size w w' := by
  obtain ⟨p0, c0, p1, c1, p2, c2, rfl, r0, r1, r2⟩ := hv
  have HC : Hid (totNet x = (totTape x.xTape) + (x.xUsed.length) + (tot x.xHeard)) := rfl
  have hl2 := hl
  rw [HC.out] at hl2
  clear hl
  have X0 := ((Blk.new w 31 #[.slice p0 x.xTape.length c0, .slice p1 x.xUsed.length c1, .int .i64 x.xSent, .slice p2 x.xHeard.length c2, .int .i64 x.xCheat.xWho, .int .i64 x.xCheat.xAt, .int .i64 x.xCheat.xBy, .bool x.xCheat.xCry, .bool x.xQuarrel.xSome, .int .i64 x.xQuarrel.xFrom, .int .i64 x.xQuarrel.xCheck, .int .i64 x.xQuarrel.xTo, .int .i64 x.xQuarrel.xTold, .int .i64 x.xQuarrel.xHeard, .int .i64 x.xQuarrel.xOther, .int .i64 x.xQuarrel.xVowed]).alloc (.cells #[.slice none 0 0, .slice none 0 0, .int .i64 0, .slice none 0 0, .int .i64 0, .int .i64 0, .int .i64 0, .bool false, .bool false, .int .i64 0, .int .i64 0, .int .i64 0, .int .i64 0, .int .i64 0, .int .i64 0, .int .i64 0] 41)).alloc (.cells #[.slice none 0 0, .slice none 0 0, .int .i64 0, .slice none 0 0, .int .i64 0, .int .i64 0, .int .i64 0, .bool false, .bool false, .int .i64 0, .int .i64 0, .int .i64 0, .int .i64 0, .int .i64 0, .int .i64 0, .int .i64 0] 41)
  have Y0 : Blk (((w.alloc (.cells #[.slice p0 x.xTape.length c0, .slice p1 x.xUsed.length c1, .int .i64 x.xSent, .slice p2 x.xHeard.length c2, .int .i64 x.xCheat.xWho, .int .i64 x.xCheat.xAt, .int .i64 x.xCheat.xBy, .bool x.xCheat.xCry, .bool x.xQuarrel.xSome, .int .i64 x.xQuarrel.xFrom, .int .i64 x.xQuarrel.xCheck, .int .i64 x.xQuarrel.xTo, .int .i64 x.xQuarrel.xTold, .int .i64 x.xQuarrel.xHeard, .int .i64 x.xQuarrel.xOther, .int .i64 x.xQuarrel.xVowed] 31)).alloc (.cells #[.slice none 0 0, .slice none 0 0, .int .i64 0, .slice none 0 0, .int .i64 0, .int .i64 0, .int .i64 0, .bool false, .bool false, .int .i64 0, .int .i64 0, .int .i64 0, .int .i64 0, .int .i64 0, .int .i64 0, .int .i64 0] 41)).alloc (.cells #[.slice none 0 0, .slice none 0 0, .int .i64 0, .slice none 0 0, .int .i64 0, .int .i64 0, .int .i64 0, .bool false, .bool false, .int .i64 0, .int .i64 0, .int .i64 0, .int .i64 0, .int .i64 0, .int .i64 0, .int .i64 0] 41)) (w.heap.size + 1) 41 #[.slice none 0 0, .slice none 0 0, .int .i64 0, .slice none 0 0, .int .i64 0, .int .i64 0, .int .i64 0, .bool false, .bool false, .int .i64 0, .int .i64 0, .int .i64 0, .int .i64 0, .int .i64 0, .int .i64 0, .int .i64 0] := by simpa using (Blk.new (w.alloc (.cells #[.slice p0 x.xTape.length c0, .slice p1 x.xUsed.length c1, .int .i64 x.xSent, .slice p2 x.xHeard.length c2, .int .i64 x.xCheat.xWho, .int .i64 x.xCheat.xAt, .int .i64 x.xCheat.xBy, .bool x.xCheat.xCry, .bool x.xQuarrel.xSome, .int .i64 x.xQuarrel.xFrom, .int .i64 x.xQuarrel.xCheck, .int .i64 x.xQuarrel.xTo, .int .i64 x.xQuarrel.xTold, .int .i64 x.xQuarrel.xHeard, .int .i64 x.xQuarrel.xOther, .int .i64 x.xQuarrel.xVowed] 31)) 41 #[.slice none 0 0, .slice none 0 0, .int .i64 0, .slice none 0 0, .int .i64 0, .int .i64 0, .int .i64 0, .bool false, .bool false, .int .i64 0, .int .i64 0, .int .i64 0, .int .i64 0, .int .i64 0, .int .i64 0, .int .i64 0]).alloc (.cells #[.slice none 0 0, .slice none 0 0, .int .i64 0, .slice none 0 0, .int .i64 0, .int .i64 0, .int .i64 0, .bool false, .bool false, .int .i64 0, .int .i64 0, .int .i64 0, .int .i64 0, .int .i64 0, .int .i64 0, .int .i64 0] 41)
  have Z0 : Blk (((w.alloc (.cells #[.slice p0 x.xTape.length c0, .slice p1 x.xUsed.length c1, .int .i64 x.xSent, .slice p2 x.xHeard.length c2, .int .i64 x.xCheat.xWho, .int .i64 x.xCheat.xAt, .int .i64 x.xCheat.xBy, .bool x.xCheat.xCry, .bool x.xQuarrel.xSome, .int .i64 x.xQuarrel.xFrom, .int .i64 x.xQuarrel.xCheck, .int .i64 x.xQuarrel.xTo, .int .i64 x.xQuarrel.xTold, .int .i64 x.xQuarrel.xHeard, .int .i64 x.xQuarrel.xOther, .int .i64 x.xQuarrel.xVowed] 31)).alloc (.cells #[.slice none 0 0, .slice none 0 0, .int .i64 0, .slice none 0 0, .int .i64 0, .int .i64 0, .int .i64 0, .bool false, .bool false, .int .i64 0, .int .i64 0, .int .i64 0, .int .i64 0, .int .i64 0, .int .i64 0, .int .i64 0] 41)).alloc (.cells #[.slice none 0 0, .slice none 0 0, .int .i64 0, .slice none 0 0, .int .i64 0, .int .i64 0, .int .i64 0, .bool false, .bool false, .int .i64 0, .int .i64 0, .int .i64 0, .int .i64 0, .int .i64 0, .int .i64 0, .int .i64 0] 41)) (w.heap.size + 1 + 1) 41 #[.slice none 0 0, .slice none 0 0, .int .i64 0, .slice none 0 0, .int .i64 0, .int .i64 0, .int .i64 0, .bool false, .bool false, .int .i64 0, .int .i64 0, .int .i64 0, .int .i64 0, .int .i64 0, .int .i64 0, .int .i64 0] := by simpa using Blk.new ((w.alloc (.cells #[.slice p0 x.xTape.length c0, .slice p1 x.xUsed.length c1, .int .i64 x.xSent, .slice p2 x.xHeard.length c2, .int .i64 x.xCheat.xWho, .int .i64 x.xCheat.xAt, .int .i64 x.xCheat.xBy, .bool x.xCheat.xCry, .bool x.xQuarrel.xSome, .int .i64 x.xQuarrel.xFrom, .int .i64 x.xQuarrel.xCheck, .int .i64 x.xQuarrel.xTo, .int .i64 x.xQuarrel.xTold, .int .i64 x.xQuarrel.xHeard, .int .i64 x.xQuarrel.xOther, .int .i64 x.xQuarrel.xVowed] 31)).alloc (.cells #[.slice none 0 0, .slice none 0 0, .int .i64 0, .slice none 0 0, .int .i64 0, .int .i64 0, .int .i64 0, .bool false, .bool false, .int .i64 0, .int .i64 0, .int .i64 0, .int .i64 0, .int .i64 0, .int .i64 0, .int .i64 0] 41)) 41 #[.slice none 0 0, .slice none 0 0, .int .i64 0, .slice none 0 0, .int .i64 0, .int .i64 0, .int .i64 0, .bool false, .bool false, .int .i64 0, .int .i64 0, .int .i64 0, .int .i64 0, .int .i64 0, .int .i64 0, .int .i64 0]
  have B0 : Below w.heap.size w (((w.alloc (.cells #[.slice p0 x.xTape.length c0, .slice p1 x.xUsed.length c1, .int .i64 x.xSent, .slice p2 x.xHeard.length c2, .int .i64 x.xCheat.xWho, .int .i64 x.xCheat.xAt, .int .i64 x.xCheat.xBy, .bool x.xCheat.xCry, .bool x.xQuarrel.xSome, .int .i64 x.xQuarrel.xFrom, .int .i64 x.xQuarrel.xCheck, .int .i64 x.xQuarrel.xTo, .int .i64 x.xQuarrel.xTold, .int .i64 x.xQuarrel.xHeard, .int .i64 x.xQuarrel.xOther, .int .i64 x.xQuarrel.xVowed] 31)).alloc (.cells #[.slice none 0 0, .slice none 0 0, .int .i64 0, .slice none 0 0, .int .i64 0, .int .i64 0, .int .i64 0, .bool false, .bool false, .int .i64 0, .int .i64 0, .int .i64 0, .int .i64 0, .int .i64 0, .int .i64 0, .int .i64 0] 41)).alloc (.cells #[.slice none 0 0, .slice none 0 0, .int .i64 0, .slice none 0 0, .int .i64 0, .int .i64 0, .int .i64 0, .bool false, .bool false, .int .i64 0, .int .i64 0, .int .i64 0, .int .i64 0, .int .i64 0, .int .i64 0, .int .i64 0] 41)) := (by repeat (first | exact Below.refl _ _ | refine Below.drew ?_ | refine below_drewN ?_ _ | refine Below.setCell ?_ (by first | omega | (simp; done) | (simp; omega)) _ | refine Below.alloc ?_ (by first | omega | (simp; done) | (simp; omega)) _))
  have Z0l := Z0.lt
  go_enter Tryz.func8, Tryz.ntmps8
  go_wp2_with fail
  refine (toTape_ow _ x.xTape _ (by exact ⟨p0, c0, rfl, r0.below B0⟩) (by omega)).mono ?_
  rintro e w1 ⟨u, b0, rfl, h, g0, hb1⟩
  obtain ⟨P0, Q0, rfl, h0⟩ := h
  replace g0 : ∀ y ∈ b0, w.heap.size + 1 + 1 < y := fun y hy => by have := g0 y hy; simp at this; omega
  have X1 := X0.keep hb1
  have Y1 := Y0.keep hb1
  have Z1 := Z0.keep hb1
  have B1 : Below w.heap.size w w1 := B0.trans (hb1.mono B0.size)
  have Z1l := Z1.lt
  clear X0 Y0 Z0 B0 Z0l
  have xa := X1.at.1
  have za1 := Z1.at.1
  have za2 := Z1.at.2
  go_wp2_with fail
  clear xa za1 za2
  refine Calls.at (F := fun W => Blk W (w.heap.size) 31 #[.slice p0 x.xTape.length c0, .slice p1 x.xUsed.length c1, .int .i64 x.xSent, .slice p2 x.xHeard.length c2, .int .i64 x.xCheat.xWho, .int .i64 x.xCheat.xAt, .int .i64 x.xCheat.xBy, .bool x.xCheat.xCry, .bool x.xQuarrel.xSome, .int .i64 x.xQuarrel.xFrom, .int .i64 x.xQuarrel.xCheck, .int .i64 x.xQuarrel.xTo, .int .i64 x.xQuarrel.xTold, .int .i64 x.xQuarrel.xHeard, .int .i64 x.xQuarrel.xOther, .int .i64 x.xQuarrel.xVowed] ∧ Blk W (w.heap.size + 1) 41 #[.slice none 0 0, .slice none 0 0, .int .i64 0, .slice none 0 0, .int .i64 0, .int .i64 0, .int .i64 0, .bool false, .bool false, .int .i64 0, .int .i64 0, .int .i64 0, .int .i64 0, .int .i64 0, .int .i64 0, .int .i64 0] ∧ Blk W (w.heap.size + 1 + 1) 41 #[.slice P0 x.xTape.length Q0, .slice none 0 0, .int .i64 0, .slice none 0 0, .int .i64 0, .int .i64 0, .int .i64 0, .bool false, .bool false, .int .i64 0, .int .i64 0, .int .i64 0, .int .i64 0, .int .i64 0, .int .i64 0, .int .i64 0] ∧ Below w.heap.size w W ∧ w.heap.size + 1 + 1 < W.heap.size ∧ Mat W (.slice P0 x.xTape.length Q0) x.xTape b0) ?_ ?_
  · have OO : ∀ W, Off [w.heap.size + 1 + 1] (w1) W → Blk W (w.heap.size + 1 + 1) 41 #[.slice P0 x.xTape.length Q0, .slice none 0 0, .int .i64 0, .slice none 0 0, .int .i64 0, .int .i64 0, .int .i64 0, .bool false, .bool false, .int .i64 0, .int .i64 0, .int .i64 0, .int .i64 0, .int .i64 0, .int .i64 0, .int .i64 0] → Blk W (w.heap.size) 31 #[.slice p0 x.xTape.length c0, .slice p1 x.xUsed.length c1, .int .i64 x.xSent, .slice p2 x.xHeard.length c2, .int .i64 x.xCheat.xWho, .int .i64 x.xCheat.xAt, .int .i64 x.xCheat.xBy, .bool x.xCheat.xCry, .bool x.xQuarrel.xSome, .int .i64 x.xQuarrel.xFrom, .int .i64 x.xQuarrel.xCheck, .int .i64 x.xQuarrel.xTo, .int .i64 x.xQuarrel.xTold, .int .i64 x.xQuarrel.xHeard, .int .i64 x.xQuarrel.xOther, .int .i64 x.xQuarrel.xVowed] ∧ Blk W (w.heap.size + 1) 41 #[.slice none 0 0, .slice none 0 0, .int .i64 0, .slice none 0 0, .int .i64 0, .int .i64 0, .int .i64 0, .bool false, .bool false, .int .i64 0, .int .i64 0, .int .i64 0, .int .i64 0, .int .i64 0, .int .i64 0, .int .i64 0] ∧ Blk W (w.heap.size + 1 + 1) 41 #[.slice P0 x.xTape.length Q0, .slice none 0 0, .int .i64 0, .slice none 0 0, .int .i64 0, .int .i64 0, .int .i64 0, .bool false, .bool false, .int .i64 0, .int .i64 0, .int .i64 0, .int .i64 0, .int .i64 0, .int .i64 0, .int .i64 0] ∧ Below w.heap.size w W ∧ w.heap.size + 1 + 1 < W.heap.size ∧ Mat W (.slice P0 x.xTape.length Q0) x.xTape b0 := fun W OO fz => ⟨X1.off OO (by simp <;> omega), Y1.off OO (by simp <;> omega), fz, B1.trans (OO.toBelow (by have := B1.size; omega) (by simp; omega)), Nat.lt_of_lt_of_le Z1l OO.size, Mat.off h0 OO (fun y hy hm => by have := g0 y hy; simp at hm; omega)⟩
    exact OO _ ((Off.refl _ _).setCell _ _ (by simp)) (Blk.of_eq ((Z1.set 0 _)) (by simp))
  clear X1 Y1 Z1 B1 Z1l h0
  rintro V1 ⟨X1, Y1, Z1, B1, Z1l, h0⟩
  refine (toInt64S_ow _ x.xUsed _ (by exact r1.below B1) (by omega)).mono ?_
  rintro e w2 ⟨u, b1, rfl, h, g1, hb2⟩
  have g1_0 := g1
  obtain ⟨P1, Q1, rfl⟩ := Ints.value h
  have h1 := h
  clear h
  replace g1 : ∀ y ∈ b1, w.heap.size + 1 + 1 < y := fun y hy => by have := g1 y hy; omega
  have d01 : Dj b0 b1 := fun y hy hm => by have := Mat.lt h0 y hy; have := g1_0 y hm; omega
  have X2 := X1.keep hb2
  have Y2 := Y1.keep hb2
  have Z2 := Z1.keep hb2
  have B2 : Below w.heap.size w w2 := B1.trans (hb2.mono B1.size)
  have Z2l := Z2.lt
  replace h0 := Mat.keep h0 hb2
  clear X1 Y1 Z1 B1 Z1l g1_0
  have xa := X2.at.1
  have za1 := Z2.at.1
  have za2 := Z2.at.2
  go_wp2_with fail
  clear xa za1 za2
  refine Calls.at (F := fun W => Blk W (w.heap.size) 31 #[.slice p0 x.xTape.length c0, .slice p1 x.xUsed.length c1, .int .i64 x.xSent, .slice p2 x.xHeard.length c2, .int .i64 x.xCheat.xWho, .int .i64 x.xCheat.xAt, .int .i64 x.xCheat.xBy, .bool x.xCheat.xCry, .bool x.xQuarrel.xSome, .int .i64 x.xQuarrel.xFrom, .int .i64 x.xQuarrel.xCheck, .int .i64 x.xQuarrel.xTo, .int .i64 x.xQuarrel.xTold, .int .i64 x.xQuarrel.xHeard, .int .i64 x.xQuarrel.xOther, .int .i64 x.xQuarrel.xVowed] ∧ Blk W (w.heap.size + 1) 41 #[.slice none 0 0, .slice none 0 0, .int .i64 0, .slice none 0 0, .int .i64 0, .int .i64 0, .int .i64 0, .bool false, .bool false, .int .i64 0, .int .i64 0, .int .i64 0, .int .i64 0, .int .i64 0, .int .i64 0, .int .i64 0] ∧ Blk W (w.heap.size + 1 + 1) 41 #[.slice P0 x.xTape.length Q0, .slice P1 x.xUsed.length Q1, .int .i64 x.xSent, .slice none 0 0, .int .i64 0, .int .i64 0, .int .i64 0, .bool false, .bool false, .int .i64 0, .int .i64 0, .int .i64 0, .int .i64 0, .int .i64 0, .int .i64 0, .int .i64 0] ∧ Below w.heap.size w W ∧ w.heap.size + 1 + 1 < W.heap.size ∧ Mat W (.slice P0 x.xTape.length Q0) x.xTape b0 ∧ Ints W (.slice P1 x.xUsed.length Q1) x.xUsed b1) ?_ ?_
  · have OO : ∀ W, Off [w.heap.size + 1 + 1] (w2) W → Blk W (w.heap.size + 1 + 1) 41 #[.slice P0 x.xTape.length Q0, .slice P1 x.xUsed.length Q1, .int .i64 x.xSent, .slice none 0 0, .int .i64 0, .int .i64 0, .int .i64 0, .bool false, .bool false, .int .i64 0, .int .i64 0, .int .i64 0, .int .i64 0, .int .i64 0, .int .i64 0, .int .i64 0] → Blk W (w.heap.size) 31 #[.slice p0 x.xTape.length c0, .slice p1 x.xUsed.length c1, .int .i64 x.xSent, .slice p2 x.xHeard.length c2, .int .i64 x.xCheat.xWho, .int .i64 x.xCheat.xAt, .int .i64 x.xCheat.xBy, .bool x.xCheat.xCry, .bool x.xQuarrel.xSome, .int .i64 x.xQuarrel.xFrom, .int .i64 x.xQuarrel.xCheck, .int .i64 x.xQuarrel.xTo, .int .i64 x.xQuarrel.xTold, .int .i64 x.xQuarrel.xHeard, .int .i64 x.xQuarrel.xOther, .int .i64 x.xQuarrel.xVowed] ∧ Blk W (w.heap.size + 1) 41 #[.slice none 0 0, .slice none 0 0, .int .i64 0, .slice none 0 0, .int .i64 0, .int .i64 0, .int .i64 0, .bool false, .bool false, .int .i64 0, .int .i64 0, .int .i64 0, .int .i64 0, .int .i64 0, .int .i64 0, .int .i64 0] ∧ Blk W (w.heap.size + 1 + 1) 41 #[.slice P0 x.xTape.length Q0, .slice P1 x.xUsed.length Q1, .int .i64 x.xSent, .slice none 0 0, .int .i64 0, .int .i64 0, .int .i64 0, .bool false, .bool false, .int .i64 0, .int .i64 0, .int .i64 0, .int .i64 0, .int .i64 0, .int .i64 0, .int .i64 0] ∧ Below w.heap.size w W ∧ w.heap.size + 1 + 1 < W.heap.size ∧ Mat W (.slice P0 x.xTape.length Q0) x.xTape b0 ∧ Ints W (.slice P1 x.xUsed.length Q1) x.xUsed b1 := fun W OO fz => ⟨X2.off OO (by simp <;> omega), Y2.off OO (by simp <;> omega), fz, B2.trans (OO.toBelow (by have := B2.size; omega) (by simp; omega)), Nat.lt_of_lt_of_le Z2l OO.size, Mat.off h0 OO (fun y hy hm => by have := g0 y hy; simp at hm; omega), Ints.off h1 OO (fun y hy hm => by have := g1 y hy; simp at hm; omega)⟩
    exact OO _ (((Off.refl _ _).setCell _ _ (by simp)).setCell _ _ (by simp)) (Blk.of_eq (((Z2.set 1 _).set 2 _)) (by simp))
  clear X2 Y2 Z2 B2 Z2l h0 h1
  rintro V2 ⟨X2, Y2, Z2, B2, Z2l, h0, h1⟩
  refine (toInt64SS_ow _ x.xHeard _ (by exact r2.below B2) (by omega)).mono ?_
  rintro e w3 ⟨u, b2, rfl, h, g2, hb3⟩
  have g2_0 := g2
  obtain ⟨P2, Q2, rfl⟩ := Mat.value h
  have h2 := h
  clear h
  replace g2 : ∀ y ∈ b2, w.heap.size + 1 + 1 < y := fun y hy => by have := g2 y hy; omega
  have d02 : Dj b0 b2 := fun y hy hm => by have := Mat.lt h0 y hy; have := g2_0 y hm; omega
  have d12 : Dj b1 b2 := fun y hy hm => by have := Ints.lt h1 y hy; have := g2_0 y hm; omega
  have X3 := X2.keep hb3
  have Y3 := Y2.keep hb3
  have Z3 := Z2.keep hb3
  have B3 : Below w.heap.size w w3 := B2.trans (hb3.mono B2.size)
  have Z3l := Z3.lt
  replace h0 := Mat.keep h0 hb3
  replace h1 := Ints.keep h1 hb3
  clear X2 Y2 Z2 B2 Z2l g2_0
  have xa := X3.at.1
  have za1 := Z3.at.1
  have za2 := Z3.at.2
  go_wp2_with fail
  clear xa za1 za2
  refine Calls.at (F := fun W => Blk W (w.heap.size) 31 #[.slice p0 x.xTape.length c0, .slice p1 x.xUsed.length c1, .int .i64 x.xSent, .slice p2 x.xHeard.length c2, .int .i64 x.xCheat.xWho, .int .i64 x.xCheat.xAt, .int .i64 x.xCheat.xBy, .bool x.xCheat.xCry, .bool x.xQuarrel.xSome, .int .i64 x.xQuarrel.xFrom, .int .i64 x.xQuarrel.xCheck, .int .i64 x.xQuarrel.xTo, .int .i64 x.xQuarrel.xTold, .int .i64 x.xQuarrel.xHeard, .int .i64 x.xQuarrel.xOther, .int .i64 x.xQuarrel.xVowed] ∧ Blk W (w.heap.size + 1) 41 #[.slice none 0 0, .slice none 0 0, .int .i64 0, .slice none 0 0, .int .i64 0, .int .i64 0, .int .i64 0, .bool false, .bool false, .int .i64 0, .int .i64 0, .int .i64 0, .int .i64 0, .int .i64 0, .int .i64 0, .int .i64 0] ∧ Blk W (w.heap.size + 1 + 1) 41 #[.slice P0 x.xTape.length Q0, .slice P1 x.xUsed.length Q1, .int .i64 x.xSent, .slice P2 x.xHeard.length Q2, .int .i64 0, .int .i64 0, .int .i64 0, .bool false, .bool false, .int .i64 0, .int .i64 0, .int .i64 0, .int .i64 0, .int .i64 0, .int .i64 0, .int .i64 0] ∧ Below w.heap.size w W ∧ w.heap.size + 1 + 1 < W.heap.size ∧ Mat W (.slice P0 x.xTape.length Q0) x.xTape b0 ∧ Ints W (.slice P1 x.xUsed.length Q1) x.xUsed b1 ∧ Mat W (.slice P2 x.xHeard.length Q2) x.xHeard b2) ?_ ?_
  · have OO : ∀ W, Off [w.heap.size + 1 + 1] (w3) W → Blk W (w.heap.size + 1 + 1) 41 #[.slice P0 x.xTape.length Q0, .slice P1 x.xUsed.length Q1, .int .i64 x.xSent, .slice P2 x.xHeard.length Q2, .int .i64 0, .int .i64 0, .int .i64 0, .bool false, .bool false, .int .i64 0, .int .i64 0, .int .i64 0, .int .i64 0, .int .i64 0, .int .i64 0, .int .i64 0] → Blk W (w.heap.size) 31 #[.slice p0 x.xTape.length c0, .slice p1 x.xUsed.length c1, .int .i64 x.xSent, .slice p2 x.xHeard.length c2, .int .i64 x.xCheat.xWho, .int .i64 x.xCheat.xAt, .int .i64 x.xCheat.xBy, .bool x.xCheat.xCry, .bool x.xQuarrel.xSome, .int .i64 x.xQuarrel.xFrom, .int .i64 x.xQuarrel.xCheck, .int .i64 x.xQuarrel.xTo, .int .i64 x.xQuarrel.xTold, .int .i64 x.xQuarrel.xHeard, .int .i64 x.xQuarrel.xOther, .int .i64 x.xQuarrel.xVowed] ∧ Blk W (w.heap.size + 1) 41 #[.slice none 0 0, .slice none 0 0, .int .i64 0, .slice none 0 0, .int .i64 0, .int .i64 0, .int .i64 0, .bool false, .bool false, .int .i64 0, .int .i64 0, .int .i64 0, .int .i64 0, .int .i64 0, .int .i64 0, .int .i64 0] ∧ Blk W (w.heap.size + 1 + 1) 41 #[.slice P0 x.xTape.length Q0, .slice P1 x.xUsed.length Q1, .int .i64 x.xSent, .slice P2 x.xHeard.length Q2, .int .i64 0, .int .i64 0, .int .i64 0, .bool false, .bool false, .int .i64 0, .int .i64 0, .int .i64 0, .int .i64 0, .int .i64 0, .int .i64 0, .int .i64 0] ∧ Below w.heap.size w W ∧ w.heap.size + 1 + 1 < W.heap.size ∧ Mat W (.slice P0 x.xTape.length Q0) x.xTape b0 ∧ Ints W (.slice P1 x.xUsed.length Q1) x.xUsed b1 ∧ Mat W (.slice P2 x.xHeard.length Q2) x.xHeard b2 := fun W OO fz => ⟨X3.off OO (by simp <;> omega), Y3.off OO (by simp <;> omega), fz, B3.trans (OO.toBelow (by have := B3.size; omega) (by simp; omega)), Nat.lt_of_lt_of_le Z3l OO.size, Mat.off h0 OO (fun y hy hm => by have := g0 y hy; simp at hm; omega), Ints.off h1 OO (fun y hy hm => by have := g1 y hy; simp at hm; omega), Mat.off h2 OO (fun y hy hm => by have := g2 y hy; simp at hm; omega)⟩
    exact OO _ ((Off.refl _ _).setCell _ _ (by simp)) (Blk.of_eq ((Z3.set 3 _)) (by simp))
  clear X3 Y3 Z3 B3 Z3l h0 h1 h2
  rintro V3 ⟨X3, Y3, Z3, B3, Z3l, h0, h1, h2⟩
  refine (toCheat_ow _ x.xCheat _ (by exact rfl)).mono ?_
  rintro e w4 ⟨rfl, hb4⟩
  have X4 := X3.keep hb4
  have Y4 := Y3.keep hb4
  have Z4 := Z3.keep hb4
  have B4 : Below w.heap.size w w4 := B3.trans (hb4.mono B3.size)
  have Z4l := Z4.lt
  replace h0 := Mat.keep h0 hb4
  replace h1 := Ints.keep h1 hb4
  replace h2 := Mat.keep h2 hb4
  clear X3 Y3 Z3 B3 Z3l
  have xa := X4.at.1
  have za1 := Z4.at.1
  have za2 := Z4.at.2
  go_wp2_with fail
  clear xa za1 za2
  refine Calls.at (F := fun W => Blk W (w.heap.size) 31 #[.slice p0 x.xTape.length c0, .slice p1 x.xUsed.length c1, .int .i64 x.xSent, .slice p2 x.xHeard.length c2, .int .i64 x.xCheat.xWho, .int .i64 x.xCheat.xAt, .int .i64 x.xCheat.xBy, .bool x.xCheat.xCry, .bool x.xQuarrel.xSome, .int .i64 x.xQuarrel.xFrom, .int .i64 x.xQuarrel.xCheck, .int .i64 x.xQuarrel.xTo, .int .i64 x.xQuarrel.xTold, .int .i64 x.xQuarrel.xHeard, .int .i64 x.xQuarrel.xOther, .int .i64 x.xQuarrel.xVowed] ∧ Blk W (w.heap.size + 1) 41 #[.slice none 0 0, .slice none 0 0, .int .i64 0, .slice none 0 0, .int .i64 0, .int .i64 0, .int .i64 0, .bool false, .bool false, .int .i64 0, .int .i64 0, .int .i64 0, .int .i64 0, .int .i64 0, .int .i64 0, .int .i64 0] ∧ Blk W (w.heap.size + 1 + 1) 41 #[.slice P0 x.xTape.length Q0, .slice P1 x.xUsed.length Q1, .int .i64 x.xSent, .slice P2 x.xHeard.length Q2, .int .i64 x.xCheat.xWho, .int .i64 x.xCheat.xAt, .int .i64 x.xCheat.xBy, .bool x.xCheat.xCry, .bool false, .int .i64 0, .int .i64 0, .int .i64 0, .int .i64 0, .int .i64 0, .int .i64 0, .int .i64 0] ∧ Below w.heap.size w W ∧ w.heap.size + 1 + 1 < W.heap.size ∧ Mat W (.slice P0 x.xTape.length Q0) x.xTape b0 ∧ Ints W (.slice P1 x.xUsed.length Q1) x.xUsed b1 ∧ Mat W (.slice P2 x.xHeard.length Q2) x.xHeard b2) ?_ ?_
  · have OO : ∀ W, Off [w.heap.size + 1 + 1] (w4) W → Blk W (w.heap.size + 1 + 1) 41 #[.slice P0 x.xTape.length Q0, .slice P1 x.xUsed.length Q1, .int .i64 x.xSent, .slice P2 x.xHeard.length Q2, .int .i64 x.xCheat.xWho, .int .i64 x.xCheat.xAt, .int .i64 x.xCheat.xBy, .bool x.xCheat.xCry, .bool false, .int .i64 0, .int .i64 0, .int .i64 0, .int .i64 0, .int .i64 0, .int .i64 0, .int .i64 0] → Blk W (w.heap.size) 31 #[.slice p0 x.xTape.length c0, .slice p1 x.xUsed.length c1, .int .i64 x.xSent, .slice p2 x.xHeard.length c2, .int .i64 x.xCheat.xWho, .int .i64 x.xCheat.xAt, .int .i64 x.xCheat.xBy, .bool x.xCheat.xCry, .bool x.xQuarrel.xSome, .int .i64 x.xQuarrel.xFrom, .int .i64 x.xQuarrel.xCheck, .int .i64 x.xQuarrel.xTo, .int .i64 x.xQuarrel.xTold, .int .i64 x.xQuarrel.xHeard, .int .i64 x.xQuarrel.xOther, .int .i64 x.xQuarrel.xVowed] ∧ Blk W (w.heap.size + 1) 41 #[.slice none 0 0, .slice none 0 0, .int .i64 0, .slice none 0 0, .int .i64 0, .int .i64 0, .int .i64 0, .bool false, .bool false, .int .i64 0, .int .i64 0, .int .i64 0, .int .i64 0, .int .i64 0, .int .i64 0, .int .i64 0] ∧ Blk W (w.heap.size + 1 + 1) 41 #[.slice P0 x.xTape.length Q0, .slice P1 x.xUsed.length Q1, .int .i64 x.xSent, .slice P2 x.xHeard.length Q2, .int .i64 x.xCheat.xWho, .int .i64 x.xCheat.xAt, .int .i64 x.xCheat.xBy, .bool x.xCheat.xCry, .bool false, .int .i64 0, .int .i64 0, .int .i64 0, .int .i64 0, .int .i64 0, .int .i64 0, .int .i64 0] ∧ Below w.heap.size w W ∧ w.heap.size + 1 + 1 < W.heap.size ∧ Mat W (.slice P0 x.xTape.length Q0) x.xTape b0 ∧ Ints W (.slice P1 x.xUsed.length Q1) x.xUsed b1 ∧ Mat W (.slice P2 x.xHeard.length Q2) x.xHeard b2 := fun W OO fz => ⟨X4.off OO (by simp <;> omega), Y4.off OO (by simp <;> omega), fz, B4.trans (OO.toBelow (by have := B4.size; omega) (by simp; omega)), Nat.lt_of_lt_of_le Z4l OO.size, Mat.off h0 OO (fun y hy hm => by have := g0 y hy; simp at hm; omega), Ints.off h1 OO (fun y hy hm => by have := g1 y hy; simp at hm; omega), Mat.off h2 OO (fun y hy hm => by have := g2 y hy; simp at hm; omega)⟩
    exact OO _ (((((Off.refl _ _).setCell _ _ (by simp)).setCell _ _ (by simp)).setCell _ _ (by simp)).setCell _ _ (by simp)) (Blk.of_eq (((((Z4.set 4 _).set 5 _).set 6 _).set 7 _)) (by simp))
  clear X4 Y4 Z4 B4 Z4l h0 h1 h2
  rintro V4 ⟨X4, Y4, Z4, B4, Z4l, h0, h1, h2⟩
  refine (toQuarrel_ow _ x.xQuarrel _ (by exact rfl)).mono ?_
  rintro e w5 ⟨rfl, hb5⟩
  have X5 := X4.keep hb5
  have Y5 := Y4.keep hb5
  have Z5 := Z4.keep hb5
  have B5 : Below w.heap.size w w5 := B4.trans (hb5.mono B4.size)
  have Z5l := Z5.lt
  replace h0 := Mat.keep h0 hb5
  replace h1 := Ints.keep h1 hb5
  replace h2 := Mat.keep h2 hb5
  clear X4 Y4 Z4 B4 Z4l
  have xa := X5.at.1
  have ya1 := Y5.at.1
  have ya2 := Y5.at.2
  have za1 := Z5.at.1
  have za2 := Z5.at.2
  go_wp2
  have OO : ∀ W, Off [w.heap.size + 1, w.heap.size + 1 + 1] w5 W → (∃ u b0 b1 b2, Ending.returned (.agg #[.slice P0 x.xTape.length Q0, .slice P1 x.xUsed.length Q1, .int .i64 x.xSent, .slice P2 x.xHeard.length Q2, .int .i64 x.xCheat.xWho, .int .i64 x.xCheat.xAt, .int .i64 x.xCheat.xBy, .bool x.xCheat.xCry, .bool x.xQuarrel.xSome, .int .i64 x.xQuarrel.xFrom, .int .i64 x.xQuarrel.xCheck, .int .i64 x.xQuarrel.xTo, .int .i64 x.xQuarrel.xTold, .int .i64 x.xQuarrel.xHeard, .int .i64 x.xQuarrel.xOther, .int .i64 x.xQuarrel.xVowed]) = .returned u ∧ OwNet W u x b0 b1 b2 ∧ (∀ y ∈ b0, w.heap.size ≤ y) ∧ (∀ y ∈ b1, w.heap.size ≤ y) ∧ (∀ y ∈ b2, w.heap.size ≤ y) ∧ Below w.heap.size w W) := fun W OO => ⟨_, b0, b1, b2, rfl, ⟨P0, Q0, P1, Q1, P2, Q2, rfl, Mat.off h0 OO (fun y hy hm => by have := g0 y hy; simp at hm; omega), Ints.off h1 OO (fun y hy hm => by have := g1 y hy; simp at hm; omega), Mat.off h2 OO (fun y hy hm => by have := g2 y hy; simp at hm; omega), d01, d02, d12⟩, fun y hy => by have := g0 y hy; omega, fun y hy => by have := g1 y hy; omega, fun y hy => by have := g2 y hy; omega, B5.trans (OO.toBelow (by have := B5.size; omega) (by simp; omega))⟩
  refine bodyPost_gen (F := fun W => Blk W (w.heap.size + 1) 41 #[.slice P0 x.xTape.length Q0, .slice P1 x.xUsed.length Q1, .int .i64 x.xSent, .slice P2 x.xHeard.length Q2, .int .i64 x.xCheat.xWho, .int .i64 x.xCheat.xAt, .int .i64 x.xCheat.xBy, .bool x.xCheat.xCry, .bool x.xQuarrel.xSome, .int .i64 x.xQuarrel.xFrom, .int .i64 x.xQuarrel.xCheck, .int .i64 x.xQuarrel.xTo, .int .i64 x.xQuarrel.xTold, .int .i64 x.xQuarrel.xHeard, .int .i64 x.xQuarrel.xOther, .int .i64 x.xQuarrel.xVowed] ∧ Off [w.heap.size + 1, w.heap.size + 1 + 1] w5 W) ⟨Blk.of_eq ((((((((((((((((((((((((Y5.setOther _ _ (by simp)).setOther _ _ (by simp)).setOther _ _ (by simp)).setOther _ _ (by simp)).setOther _ _ (by simp)).setOther _ _ (by simp)).setOther _ _ (by simp)).setOther _ _ (by simp)).set 0 _).set 1 _).set 2 _).set 3 _).set 4 _).set 5 _).set 6 _).set 7 _).set 8 _).set 9 _).set 10 _).set 11 _).set 12 _).set 13 _).set 14 _).set 15 _) (by simp), (((((((((((((((((((((((((Off.refl _ _).setCell _ _ (by simp)).setCell _ _ (by simp)).setCell _ _ (by simp)).setCell _ _ (by simp)).setCell _ _ (by simp)).setCell _ _ (by simp)).setCell _ _ (by simp)).setCell _ _ (by simp)).setCell _ _ (by simp)).setCell _ _ (by simp)).setCell _ _ (by simp)).setCell _ _ (by simp)).setCell _ _ (by simp)).setCell _ _ (by simp)).setCell _ _ (by simp)).setCell _ _ (by simp)).setCell _ _ (by simp)).setCell _ _ (by simp)).setCell _ _ (by simp)).setCell _ _ (by simp)).setCell _ _ (by simp)).setCell _ _ (by simp)).setCell _ _ (by simp)).setCell _ _ (by simp))⟩ ?_
  rintro W ⟨RB, OW⟩
  have rb := RB.at.1
  exact bodyPost_ret (v := .agg #[.slice P0 x.xTape.length Q0, .slice P1 x.xUsed.length Q1, .int .i64 x.xSent, .slice P2 x.xHeard.length Q2, .int .i64 x.xCheat.xWho, .int .i64 x.xCheat.xAt, .int .i64 x.xCheat.xBy, .bool x.xCheat.xCry, .bool x.xQuarrel.xSome, .int .i64 x.xQuarrel.xFrom, .int .i64 x.xQuarrel.xCheck, .int .i64 x.xQuarrel.xTo, .int .i64 x.xQuarrel.xTold, .int .i64 x.xQuarrel.xHeard, .int .i64 x.xQuarrel.xOther, .int .i64 x.xQuarrel.xVowed]) (by simp [results, Tryz.results8, go_sem, rb]) rfl (OO W OW)
-- NetResult
/-- the plain shape of NetResult -/
structure MNetResult where
  xCode : Int
  xValue : Int
  xNet : MNet
def RdNetResult (w : World) (v : Value) (x : MNetResult) : Prop := ∃ p0 c0 p1 c1 p2 c2, v = .agg #[.int .i64 x.xCode, .int .i64 x.xValue, .slice p0 x.xNet.xTape.length c0, .slice p1 x.xNet.xUsed.length c1, .int .i64 x.xNet.xSent, .slice p2 x.xNet.xHeard.length c2, .int .i64 x.xNet.xCheat.xWho, .int .i64 x.xNet.xCheat.xAt, .int .i64 x.xNet.xCheat.xBy, .bool x.xNet.xCheat.xCry, .bool x.xNet.xQuarrel.xSome, .int .i64 x.xNet.xQuarrel.xFrom, .int .i64 x.xNet.xQuarrel.xCheck, .int .i64 x.xNet.xQuarrel.xTo, .int .i64 x.xNet.xQuarrel.xTold, .int .i64 x.xNet.xQuarrel.xHeard, .int .i64 x.xNet.xQuarrel.xOther, .int .i64 x.xNet.xQuarrel.xVowed] ∧ ReadsM w (.slice p0 x.xNet.xTape.length c0) x.xNet.xTape ∧ Reads w .i64 (.slice p1 x.xNet.xUsed.length c1) x.xNet.xUsed ∧ ReadsM w (.slice p2 x.xNet.xHeard.length c2) x.xNet.xHeard
def OwNetResult (w : World) (v : Value) (x : MNetResult) (b0 b1 b2 : List Nat) : Prop := ∃ p0 c0 p1 c1 p2 c2, v = .agg #[.int .i64 x.xCode, .int .i64 x.xValue, .slice p0 x.xNet.xTape.length c0, .slice p1 x.xNet.xUsed.length c1, .int .i64 x.xNet.xSent, .slice p2 x.xNet.xHeard.length c2, .int .i64 x.xNet.xCheat.xWho, .int .i64 x.xNet.xCheat.xAt, .int .i64 x.xNet.xCheat.xBy, .bool x.xNet.xCheat.xCry, .bool x.xNet.xQuarrel.xSome, .int .i64 x.xNet.xQuarrel.xFrom, .int .i64 x.xNet.xQuarrel.xCheck, .int .i64 x.xNet.xQuarrel.xTo, .int .i64 x.xNet.xQuarrel.xTold, .int .i64 x.xNet.xQuarrel.xHeard, .int .i64 x.xNet.xQuarrel.xOther, .int .i64 x.xNet.xQuarrel.xVowed] ∧ Mat w (.slice p0 x.xNet.xTape.length c0) x.xNet.xTape b0 ∧ Ints w (.slice p1 x.xNet.xUsed.length c1) x.xNet.xUsed b1 ∧ Mat w (.slice p2 x.xNet.xHeard.length c2) x.xNet.xHeard b2 ∧ Dj b0 b1 ∧ Dj b0 b2 ∧ Dj b1 b2
theorem RdNetResult.below {w w' : World} {v : Value} {x : MNetResult} (h : RdNetResult w v x) (hb : Below w.heap.size w w') : RdNetResult w' v x := by
  obtain ⟨p0, c0, p1, c1, p2, c2, e, h0, h1, h2⟩ := h
  exact ⟨p0, c0, p1, c1, p2, c2, e, h0.below hb, h1.below hb, h2.below hb⟩
theorem OwNetResult.rd {w : World} {v : Value} {x : MNetResult} {b0 b1 b2 : List Nat} (h : OwNetResult w v x b0 b1 b2) : RdNetResult w v x := by
  obtain ⟨p0, c0, p1, c1, p2, c2, e, h0, h1, h2, d01, d02, d12⟩ := h
  exact ⟨p0, c0, p1, c1, p2, c2, e, Mat.reads h0, Ints.reads h1, Mat.reads h2⟩
theorem OwNetResult.keep {w : World} {v : Value} {x : MNetResult} {b0 b1 b2 : List Nat} {w' : World} (h : OwNetResult w v x b0 b1 b2) (hb : Below w.heap.size w w') : OwNetResult w' v x b0 b1 b2 := by
  obtain ⟨p0, c0, p1, c1, p2, c2, e, h0, h1, h2, d01, d02, d12⟩ := h
  exact ⟨p0, c0, p1, c1, p2, c2, e, Mat.keep h0 hb, Ints.keep h1 hb, Mat.keep h2 hb, d01, d02, d12⟩
theorem OwNetResult.off {w : World} {v : Value} {x : MNetResult} {b0 b1 b2 : List Nat} {w' : World} {cs : List Nat} (h : OwNetResult w v x b0 b1 b2) (hb : Off cs w w') (k : Dj (b0 ++ (b1 ++ b2)) cs) : OwNetResult w' v x b0 b1 b2 := by
  obtain ⟨p0, c0, p1, c1, p2, c2, e, h0, h1, h2, d01, d02, d12⟩ := h
  exact ⟨p0, c0, p1, c1, p2, c2, e, Mat.off h0 hb (fun g hg => k g (by simp [hg])), Ints.off h1 hb (fun g hg => k g (by simp [hg])), Mat.off h2 hb (fun g hg => k g (by simp [hg])), d01, d02, d12⟩
theorem OwNetResult.lt {w : World} {v : Value} {x : MNetResult} {b0 b1 b2 : List Nat} (h : OwNetResult w v x b0 b1 b2) : ∀ g ∈ (b0 ++ (b1 ++ b2)), g < w.heap.size := by
  obtain ⟨p0, c0, p1, c1, p2, c2, e, h0, h1, h2, d01, d02, d12⟩ := h
  intro g hg
  simp only [List.mem_append] at hg
  rcases hg with hg | hg | hg
  · exact Mat.lt h0 g hg
  · exact Ints.lt h1 g hg
  · exact Mat.lt h2 g hg
theorem OwNetResult.shp {w : World} {v : Value} {x : MNetResult} {b0 b1 b2 : List Nat} (h : OwNetResult w v x b0 b1 b2) : ∃ p0 c0 p1 c1 p2 c2, v = .agg #[.int .i64 x.xCode, .int .i64 x.xValue, .slice p0 x.xNet.xTape.length c0, .slice p1 x.xNet.xUsed.length c1, .int .i64 x.xNet.xSent, .slice p2 x.xNet.xHeard.length c2, .int .i64 x.xNet.xCheat.xWho, .int .i64 x.xNet.xCheat.xAt, .int .i64 x.xNet.xCheat.xBy, .bool x.xNet.xCheat.xCry, .bool x.xNet.xQuarrel.xSome, .int .i64 x.xNet.xQuarrel.xFrom, .int .i64 x.xNet.xQuarrel.xCheck, .int .i64 x.xNet.xQuarrel.xTo, .int .i64 x.xNet.xQuarrel.xTold, .int .i64 x.xNet.xQuarrel.xHeard, .int .i64 x.xNet.xQuarrel.xOther, .int .i64 x.xNet.xQuarrel.xVowed] := by
  obtain ⟨p0, c0, p1, c1, p2, c2, e, _⟩ := h
  exact ⟨p0, c0, p1, c1, p2, c2, e⟩
theorem OwNetResult.alloc {w : World} {v : Value} {x : MNetResult} {b0 b1 b2 : List Nat} (h : OwNetResult w v x b0 b1 b2) (o : Obj) : OwNetResult (w.alloc o) v x b0 b1 b2 := h.keep ((Below.refl _ _).alloc (Nat.le_refl _) _)
theorem OwNetResult.drew {w : World} {v : Value} {x : MNetResult} {b0 b1 b2 : List Nat} (h : OwNetResult w v x b0 b1 b2) : OwNetResult w.drew v x b0 b1 b2 := h.keep (Below.refl _ _).drew
def totNetResult (x : MNetResult) : Nat := (totNet x.xNet)
def cntNetResult (x : MNetResult) : Nat := cntNet x.xNet
theorem cntNetResult_le (x : MNetResult) : cntNetResult x ≤ totNetResult x := by
  have := cntNet_le x.xNet
  unfold cntNetResult totNetResult
  omega
def mkNetResult (k : Int) (x : MNetResult) : MNetResult := { x with xNet := mkNet k x.xNet }
-- PairResult
/-- the plain shape of PairResult -/
structure MPairResult where
  xCode : Int
  xFirst : Int
  xSecond : Int
def RdPairResult (w : World) (v : Value) (x : MPairResult) : Prop := v = .agg #[.int .i64 x.xCode, .int .i64 x.xFirst, .int .i64 x.xSecond]
-- MixResult
/-- the plain shape of MixResult -/
structure MMixResult where
  xCode : Int
  xMirror : MMirror
  xNet : MNet
def RdMixResult (w : World) (v : Value) (x : MMixResult) : Prop := ∃ p0 c0 p1 c1 p2 c2 p3 c3, v = .agg #[.int .i64 x.xCode, .int .i64 x.xMirror.xQ, .slice p0 x.xMirror.xViews.length c0, .slice p1 x.xNet.xTape.length c1, .slice p2 x.xNet.xUsed.length c2, .int .i64 x.xNet.xSent, .slice p3 x.xNet.xHeard.length c3, .int .i64 x.xNet.xCheat.xWho, .int .i64 x.xNet.xCheat.xAt, .int .i64 x.xNet.xCheat.xBy, .bool x.xNet.xCheat.xCry, .bool x.xNet.xQuarrel.xSome, .int .i64 x.xNet.xQuarrel.xFrom, .int .i64 x.xNet.xQuarrel.xCheck, .int .i64 x.xNet.xQuarrel.xTo, .int .i64 x.xNet.xQuarrel.xTold, .int .i64 x.xNet.xQuarrel.xHeard, .int .i64 x.xNet.xQuarrel.xOther, .int .i64 x.xNet.xQuarrel.xVowed] ∧ ReadsM w (.slice p0 x.xMirror.xViews.length c0) x.xMirror.xViews ∧ ReadsM w (.slice p1 x.xNet.xTape.length c1) x.xNet.xTape ∧ Reads w .i64 (.slice p2 x.xNet.xUsed.length c2) x.xNet.xUsed ∧ ReadsM w (.slice p3 x.xNet.xHeard.length c3) x.xNet.xHeard
def OwMixResult (w : World) (v : Value) (x : MMixResult) (b0 b1 b2 b3 : List Nat) : Prop := ∃ p0 c0 p1 c1 p2 c2 p3 c3, v = .agg #[.int .i64 x.xCode, .int .i64 x.xMirror.xQ, .slice p0 x.xMirror.xViews.length c0, .slice p1 x.xNet.xTape.length c1, .slice p2 x.xNet.xUsed.length c2, .int .i64 x.xNet.xSent, .slice p3 x.xNet.xHeard.length c3, .int .i64 x.xNet.xCheat.xWho, .int .i64 x.xNet.xCheat.xAt, .int .i64 x.xNet.xCheat.xBy, .bool x.xNet.xCheat.xCry, .bool x.xNet.xQuarrel.xSome, .int .i64 x.xNet.xQuarrel.xFrom, .int .i64 x.xNet.xQuarrel.xCheck, .int .i64 x.xNet.xQuarrel.xTo, .int .i64 x.xNet.xQuarrel.xTold, .int .i64 x.xNet.xQuarrel.xHeard, .int .i64 x.xNet.xQuarrel.xOther, .int .i64 x.xNet.xQuarrel.xVowed] ∧ Mat w (.slice p0 x.xMirror.xViews.length c0) x.xMirror.xViews b0 ∧ Mat w (.slice p1 x.xNet.xTape.length c1) x.xNet.xTape b1 ∧ Ints w (.slice p2 x.xNet.xUsed.length c2) x.xNet.xUsed b2 ∧ Mat w (.slice p3 x.xNet.xHeard.length c3) x.xNet.xHeard b3 ∧ Dj b0 b1 ∧ Dj b0 b2 ∧ Dj b0 b3 ∧ Dj b1 b2 ∧ Dj b1 b3 ∧ Dj b2 b3
theorem RdMixResult.below {w w' : World} {v : Value} {x : MMixResult} (h : RdMixResult w v x) (hb : Below w.heap.size w w') : RdMixResult w' v x := by
  obtain ⟨p0, c0, p1, c1, p2, c2, p3, c3, e, h0, h1, h2, h3⟩ := h
  exact ⟨p0, c0, p1, c1, p2, c2, p3, c3, e, h0.below hb, h1.below hb, h2.below hb, h3.below hb⟩
theorem OwMixResult.rd {w : World} {v : Value} {x : MMixResult} {b0 b1 b2 b3 : List Nat} (h : OwMixResult w v x b0 b1 b2 b3) : RdMixResult w v x := by
  obtain ⟨p0, c0, p1, c1, p2, c2, p3, c3, e, h0, h1, h2, h3, d01, d02, d03, d12, d13, d23⟩ := h
  exact ⟨p0, c0, p1, c1, p2, c2, p3, c3, e, Mat.reads h0, Mat.reads h1, Ints.reads h2, Mat.reads h3⟩
theorem OwMixResult.keep {w : World} {v : Value} {x : MMixResult} {b0 b1 b2 b3 : List Nat} {w' : World} (h : OwMixResult w v x b0 b1 b2 b3) (hb : Below w.heap.size w w') : OwMixResult w' v x b0 b1 b2 b3 := by
  obtain ⟨p0, c0, p1, c1, p2, c2, p3, c3, e, h0, h1, h2, h3, d01, d02, d03, d12, d13, d23⟩ := h
  exact ⟨p0, c0, p1, c1, p2, c2, p3, c3, e, Mat.keep h0 hb, Mat.keep h1 hb, Ints.keep h2 hb, Mat.keep h3 hb, d01, d02, d03, d12, d13, d23⟩
theorem OwMixResult.off {w : World} {v : Value} {x : MMixResult} {b0 b1 b2 b3 : List Nat} {w' : World} {cs : List Nat} (h : OwMixResult w v x b0 b1 b2 b3) (hb : Off cs w w') (k : Dj (b0 ++ (b1 ++ (b2 ++ b3))) cs) : OwMixResult w' v x b0 b1 b2 b3 := by
  obtain ⟨p0, c0, p1, c1, p2, c2, p3, c3, e, h0, h1, h2, h3, d01, d02, d03, d12, d13, d23⟩ := h
  exact ⟨p0, c0, p1, c1, p2, c2, p3, c3, e, Mat.off h0 hb (fun g hg => k g (by simp [hg])), Mat.off h1 hb (fun g hg => k g (by simp [hg])), Ints.off h2 hb (fun g hg => k g (by simp [hg])), Mat.off h3 hb (fun g hg => k g (by simp [hg])), d01, d02, d03, d12, d13, d23⟩
theorem OwMixResult.lt {w : World} {v : Value} {x : MMixResult} {b0 b1 b2 b3 : List Nat} (h : OwMixResult w v x b0 b1 b2 b3) : ∀ g ∈ (b0 ++ (b1 ++ (b2 ++ b3))), g < w.heap.size := by
  obtain ⟨p0, c0, p1, c1, p2, c2, p3, c3, e, h0, h1, h2, h3, d01, d02, d03, d12, d13, d23⟩ := h
  intro g hg
  simp only [List.mem_append] at hg
  rcases hg with hg | hg | hg | hg
  · exact Mat.lt h0 g hg
  · exact Mat.lt h1 g hg
  · exact Ints.lt h2 g hg
  · exact Mat.lt h3 g hg
theorem OwMixResult.shp {w : World} {v : Value} {x : MMixResult} {b0 b1 b2 b3 : List Nat} (h : OwMixResult w v x b0 b1 b2 b3) : ∃ p0 c0 p1 c1 p2 c2 p3 c3, v = .agg #[.int .i64 x.xCode, .int .i64 x.xMirror.xQ, .slice p0 x.xMirror.xViews.length c0, .slice p1 x.xNet.xTape.length c1, .slice p2 x.xNet.xUsed.length c2, .int .i64 x.xNet.xSent, .slice p3 x.xNet.xHeard.length c3, .int .i64 x.xNet.xCheat.xWho, .int .i64 x.xNet.xCheat.xAt, .int .i64 x.xNet.xCheat.xBy, .bool x.xNet.xCheat.xCry, .bool x.xNet.xQuarrel.xSome, .int .i64 x.xNet.xQuarrel.xFrom, .int .i64 x.xNet.xQuarrel.xCheck, .int .i64 x.xNet.xQuarrel.xTo, .int .i64 x.xNet.xQuarrel.xTold, .int .i64 x.xNet.xQuarrel.xHeard, .int .i64 x.xNet.xQuarrel.xOther, .int .i64 x.xNet.xQuarrel.xVowed] := by
  obtain ⟨p0, c0, p1, c1, p2, c2, p3, c3, e, _⟩ := h
  exact ⟨p0, c0, p1, c1, p2, c2, p3, c3, e⟩
theorem OwMixResult.alloc {w : World} {v : Value} {x : MMixResult} {b0 b1 b2 b3 : List Nat} (h : OwMixResult w v x b0 b1 b2 b3) (o : Obj) : OwMixResult (w.alloc o) v x b0 b1 b2 b3 := h.keep ((Below.refl _ _).alloc (Nat.le_refl _) _)
theorem OwMixResult.drew {w : World} {v : Value} {x : MMixResult} {b0 b1 b2 b3 : List Nat} (h : OwMixResult w v x b0 b1 b2 b3) : OwMixResult w.drew v x b0 b1 b2 b3 := h.keep (Below.refl _ _).drew
def totMixResult (x : MMixResult) : Nat := (totMirror x.xMirror) + (totNet x.xNet)
def cntMixResult (x : MMixResult) : Nat := cntMirror x.xMirror + cntNet x.xNet
theorem cntMixResult_le (x : MMixResult) : cntMixResult x ≤ totMixResult x := by
  have := cntMirror_le x.xMirror
  have := cntNet_le x.xNet
  unfold cntMixResult totMixResult
  omega
def mkMixResult (k : Int) (x : MMixResult) : MMixResult := { x with xMirror := mkMirror k x.xMirror, xNet := mkNet (k + (cntMirror x.xMirror : Nat)) x.xNet }
set_option maxHeartbeats 1000000 in
theorem eqMixResult_rd (v u : Value) (x : MMixResult) (w : World) (hv : RdMixResult w v x) (hu : RdMixResult w u x) :
    Calls Tryz.prog 11 #[v, u] w fun e w' => e = .returned (.bool true) ∧ Below w.heap.size w w' := by
  obtain ⟨p0, c0, p1, c1, p2, c2, p3, c3, rfl, h0, h1, h2, h3⟩ := hv
  obtain ⟨q0, d0, q1, d1, q2, d2, q3, d3, rfl, k0, k1, k2, k3⟩ := hu
  have B0 : Below w.heap.size w ((w.alloc (.cells #[.int .i64 x.xCode, .int .i64 x.xMirror.xQ, .slice p0 x.xMirror.xViews.length c0, .slice p1 x.xNet.xTape.length c1, .slice p2 x.xNet.xUsed.length c2, .int .i64 x.xNet.xSent, .slice p3 x.xNet.xHeard.length c3, .int .i64 x.xNet.xCheat.xWho, .int .i64 x.xNet.xCheat.xAt, .int .i64 x.xNet.xCheat.xBy, .bool x.xNet.xCheat.xCry, .bool x.xNet.xQuarrel.xSome, .int .i64 x.xNet.xQuarrel.xFrom, .int .i64 x.xNet.xQuarrel.xCheck, .int .i64 x.xNet.xQuarrel.xTo, .int .i64 x.xNet.xQuarrel.xTold, .int .i64 x.xNet.xQuarrel.xHeard, .int .i64 x.xNet.xQuarrel.xOther, .int .i64 x.xNet.xQuarrel.xVowed] 43)).alloc (.cells #[.int .i64 x.xCode, .int .i64 x.xMirror.xQ, .slice q0 x.xMirror.xViews.length d0, .slice q1 x.xNet.xTape.length d1, .slice q2 x.xNet.xUsed.length d2, .int .i64 x.xNet.xSent, .slice q3 x.xNet.xHeard.length d3, .int .i64 x.xNet.xCheat.xWho, .int .i64 x.xNet.xCheat.xAt, .int .i64 x.xNet.xCheat.xBy, .bool x.xNet.xCheat.xCry, .bool x.xNet.xQuarrel.xSome, .int .i64 x.xNet.xQuarrel.xFrom, .int .i64 x.xNet.xQuarrel.xCheck, .int .i64 x.xNet.xQuarrel.xTo, .int .i64 x.xNet.xQuarrel.xTold, .int .i64 x.xNet.xQuarrel.xHeard, .int .i64 x.xNet.xQuarrel.xOther, .int .i64 x.xNet.xQuarrel.xVowed] 43)) := (by repeat (first | exact Below.refl _ _ | refine Below.drew ?_ | refine below_drewN ?_ _ | refine Below.setCell ?_ (by first | omega | (simp; done) | (simp; omega)) _ | refine Below.alloc ?_ (by first | omega | (simp; done) | (simp; omega)) _))
  have X0 := (Blk.new w 43 #[.int .i64 x.xCode, .int .i64 x.xMirror.xQ, .slice p0 x.xMirror.xViews.length c0, .slice p1 x.xNet.xTape.length c1, .slice p2 x.xNet.xUsed.length c2, .int .i64 x.xNet.xSent, .slice p3 x.xNet.xHeard.length c3, .int .i64 x.xNet.xCheat.xWho, .int .i64 x.xNet.xCheat.xAt, .int .i64 x.xNet.xCheat.xBy, .bool x.xNet.xCheat.xCry, .bool x.xNet.xQuarrel.xSome, .int .i64 x.xNet.xQuarrel.xFrom, .int .i64 x.xNet.xQuarrel.xCheck, .int .i64 x.xNet.xQuarrel.xTo, .int .i64 x.xNet.xQuarrel.xTold, .int .i64 x.xNet.xQuarrel.xHeard, .int .i64 x.xNet.xQuarrel.xOther, .int .i64 x.xNet.xQuarrel.xVowed]).alloc (.cells #[.int .i64 x.xCode, .int .i64 x.xMirror.xQ, .slice q0 x.xMirror.xViews.length d0, .slice q1 x.xNet.xTape.length d1, .slice q2 x.xNet.xUsed.length d2, .int .i64 x.xNet.xSent, .slice q3 x.xNet.xHeard.length d3, .int .i64 x.xNet.xCheat.xWho, .int .i64 x.xNet.xCheat.xAt, .int .i64 x.xNet.xCheat.xBy, .bool x.xNet.xCheat.xCry, .bool x.xNet.xQuarrel.xSome, .int .i64 x.xNet.xQuarrel.xFrom, .int .i64 x.xNet.xQuarrel.xCheck, .int .i64 x.xNet.xQuarrel.xTo, .int .i64 x.xNet.xQuarrel.xTold, .int .i64 x.xNet.xQuarrel.xHeard, .int .i64 x.xNet.xQuarrel.xOther, .int .i64 x.xNet.xQuarrel.xVowed] 43)
  have Y0 : Blk ((w.alloc (.cells #[.int .i64 x.xCode, .int .i64 x.xMirror.xQ, .slice p0 x.xMirror.xViews.length c0, .slice p1 x.xNet.xTape.length c1, .slice p2 x.xNet.xUsed.length c2, .int .i64 x.xNet.xSent, .slice p3 x.xNet.xHeard.length c3, .int .i64 x.xNet.xCheat.xWho, .int .i64 x.xNet.xCheat.xAt, .int .i64 x.xNet.xCheat.xBy, .bool x.xNet.xCheat.xCry, .bool x.xNet.xQuarrel.xSome, .int .i64 x.xNet.xQuarrel.xFrom, .int .i64 x.xNet.xQuarrel.xCheck, .int .i64 x.xNet.xQuarrel.xTo, .int .i64 x.xNet.xQuarrel.xTold, .int .i64 x.xNet.xQuarrel.xHeard, .int .i64 x.xNet.xQuarrel.xOther, .int .i64 x.xNet.xQuarrel.xVowed] 43)).alloc (.cells #[.int .i64 x.xCode, .int .i64 x.xMirror.xQ, .slice q0 x.xMirror.xViews.length d0, .slice q1 x.xNet.xTape.length d1, .slice q2 x.xNet.xUsed.length d2, .int .i64 x.xNet.xSent, .slice q3 x.xNet.xHeard.length d3, .int .i64 x.xNet.xCheat.xWho, .int .i64 x.xNet.xCheat.xAt, .int .i64 x.xNet.xCheat.xBy, .bool x.xNet.xCheat.xCry, .bool x.xNet.xQuarrel.xSome, .int .i64 x.xNet.xQuarrel.xFrom, .int .i64 x.xNet.xQuarrel.xCheck, .int .i64 x.xNet.xQuarrel.xTo, .int .i64 x.xNet.xQuarrel.xTold, .int .i64 x.xNet.xQuarrel.xHeard, .int .i64 x.xNet.xQuarrel.xOther, .int .i64 x.xNet.xQuarrel.xVowed] 43)) (w.heap.size + 1) 43 #[.int .i64 x.xCode, .int .i64 x.xMirror.xQ, .slice q0 x.xMirror.xViews.length d0, .slice q1 x.xNet.xTape.length d1, .slice q2 x.xNet.xUsed.length d2, .int .i64 x.xNet.xSent, .slice q3 x.xNet.xHeard.length d3, .int .i64 x.xNet.xCheat.xWho, .int .i64 x.xNet.xCheat.xAt, .int .i64 x.xNet.xCheat.xBy, .bool x.xNet.xCheat.xCry, .bool x.xNet.xQuarrel.xSome, .int .i64 x.xNet.xQuarrel.xFrom, .int .i64 x.xNet.xQuarrel.xCheck, .int .i64 x.xNet.xQuarrel.xTo, .int .i64 x.xNet.xQuarrel.xTold, .int .i64 x.xNet.xQuarrel.xHeard, .int .i64 x.xNet.xQuarrel.xOther, .int .i64 x.xNet.xQuarrel.xVowed] := by simpa using Blk.new (w.alloc (.cells #[.int .i64 x.xCode, .int .i64 x.xMirror.xQ, .slice p0 x.xMirror.xViews.length c0, .slice p1 x.xNet.xTape.length c1, .slice p2 x.xNet.xUsed.length c2, .int .i64 x.xNet.xSent, .slice p3 x.xNet.xHeard.length c3, .int .i64 x.xNet.xCheat.xWho, .int .i64 x.xNet.xCheat.xAt, .int .i64 x.xNet.xCheat.xBy, .bool x.xNet.xCheat.xCry, .bool x.xNet.xQuarrel.xSome, .int .i64 x.xNet.xQuarrel.xFrom, .int .i64 x.xNet.xQuarrel.xCheck, .int .i64 x.xNet.xQuarrel.xTo, .int .i64 x.xNet.xQuarrel.xTold, .int .i64 x.xNet.xQuarrel.xHeard, .int .i64 x.xNet.xQuarrel.xOther, .int .i64 x.xNet.xQuarrel.xVowed] 43)) 43 #[.int .i64 x.xCode, .int .i64 x.xMirror.xQ, .slice q0 x.xMirror.xViews.length d0, .slice q1 x.xNet.xTape.length d1, .slice q2 x.xNet.xUsed.length d2, .int .i64 x.xNet.xSent, .slice q3 x.xNet.xHeard.length d3, .int .i64 x.xNet.xCheat.xWho, .int .i64 x.xNet.xCheat.xAt, .int .i64 x.xNet.xCheat.xBy, .bool x.xNet.xCheat.xCry, .bool x.xNet.xQuarrel.xSome, .int .i64 x.xNet.xQuarrel.xFrom, .int .i64 x.xNet.xQuarrel.xCheck, .int .i64 x.xNet.xQuarrel.xTo, .int .i64 x.xNet.xQuarrel.xTold, .int .i64 x.xNet.xQuarrel.xHeard, .int .i64 x.xNet.xQuarrel.xOther, .int .i64 x.xNet.xQuarrel.xVowed]
  replace h0 := h0.below B0
  replace k0 := k0.below B0
  replace h1 := h1.below B0
  replace k1 := k1.below B0
  replace h2 := h2.below B0
  replace k2 := k2.below B0
  replace h3 := h3.below B0
  replace k3 := k3.below B0
  go_enter Tryz.func11, Tryz.ntmps11
  go_wp2_with fail
  refine (eqMirror_rd _ _ x.xMirror _ (by exact ⟨p0, c0, rfl, h0⟩) (by exact ⟨q0, d0, rfl, k0⟩)).mono ?_
  rintro e w1 ⟨rfl, hb1⟩
  have X1 := X0.keep hb1
  have Y1 := Y0.keep hb1
  have B1 : Below w.heap.size w w1 := B0.trans (hb1.mono B0.size)
  replace h0 := h0.below hb1
  replace k0 := k0.below hb1
  replace h1 := h1.below hb1
  replace k1 := k1.below hb1
  replace h2 := h2.below hb1
  replace k2 := k2.below hb1
  replace h3 := h3.below hb1
  replace k3 := k3.below hb1
  clear X0 Y0
  have xa := X1.at.1
  have ya := Y1.at.1
  go_wp2_with fail
  clear xa ya
  refine (eqNet_rd _ _ x.xNet _ (by exact ⟨p1, c1, p2, c2, p3, c3, rfl, h1, h2, h3⟩) (by exact ⟨q1, d1, q2, d2, q3, d3, rfl, k1, k2, k3⟩)).mono ?_
  rintro e w2 ⟨rfl, hb2⟩
  have X2 := X1.keep hb2
  have Y2 := Y1.keep hb2
  have B2 : Below w.heap.size w w2 := B1.trans (hb2.mono B1.size)
  replace h0 := h0.below hb2
  replace k0 := k0.below hb2
  replace h1 := h1.below hb2
  replace k1 := k1.below hb2
  replace h2 := h2.below hb2
  replace k2 := k2.below hb2
  replace h3 := h3.below hb2
  replace k3 := k3.below hb2
  clear X1 Y1
  have xa := X2.at.1
  have ya := Y2.at.1
  go_wp2
  go_ret
  exact ⟨rfl, B2⟩
set_option maxHeartbeats 1000000 in
theorem markMixResult_ow (v : Value) (x : MMixResult) (b0 b1 b2 b3 : List Nat) (k : Int) (w : World) (hv : OwMixResult w v x b0 b1 b2 b3) (hk : 0 ≤ k) (hk' : k + (cntMixResult x : Nat) ≤ 536870912) :
    Calls Tryz.prog 16 #[v, .int .i64 k] w fun e w' => e = .returned (.int .i64 (k + (cntMixResult x : Nat))) ∧ OwMixResult w' v (mkMixResult k x) b0 b1 b2 b3 ∧ Off (b0 ++ (b1 ++ (b2 ++ b3))) w w' := by
  obtain ⟨p0, c0, p1, c1, p2, c2, p3, c3, rfl, h0, h1, h2, h3, d01, d02, d03, d12, d13, d23⟩ := hv
  have X0 := Blk.new w 43 #[.int .i64 x.xCode, .int .i64 x.xMirror.xQ, .slice p0 x.xMirror.xViews.length c0, .slice p1 x.xNet.xTape.length c1, .slice p2 x.xNet.xUsed.length c2, .int .i64 x.xNet.xSent, .slice p3 x.xNet.xHeard.length c3, .int .i64 x.xNet.xCheat.xWho, .int .i64 x.xNet.xCheat.xAt, .int .i64 x.xNet.xCheat.xBy, .bool x.xNet.xCheat.xCry, .bool x.xNet.xQuarrel.xSome, .int .i64 x.xNet.xQuarrel.xFrom, .int .i64 x.xNet.xQuarrel.xCheck, .int .i64 x.xNet.xQuarrel.xTo, .int .i64 x.xNet.xQuarrel.xTold, .int .i64 x.xNet.xQuarrel.xHeard, .int .i64 x.xNet.xQuarrel.xOther, .int .i64 x.xNet.xQuarrel.xVowed]
  have n0 : w.heap.size ∉ b0 := fun h => Nat.lt_irrefl _ (Mat.lt h0 _ h)
  have n1 : w.heap.size ∉ b1 := fun h => Nat.lt_irrefl _ (Mat.lt h1 _ h)
  have n2 : w.heap.size ∉ b2 := fun h => Nat.lt_irrefl _ (Ints.lt h2 _ h)
  have n3 : w.heap.size ∉ b3 := fun h => Nat.lt_irrefl _ (Mat.lt h3 _ h)
  replace h0 := Mat.alloc h0 (.cells #[.int .i64 x.xCode, .int .i64 x.xMirror.xQ, .slice p0 x.xMirror.xViews.length c0, .slice p1 x.xNet.xTape.length c1, .slice p2 x.xNet.xUsed.length c2, .int .i64 x.xNet.xSent, .slice p3 x.xNet.xHeard.length c3, .int .i64 x.xNet.xCheat.xWho, .int .i64 x.xNet.xCheat.xAt, .int .i64 x.xNet.xCheat.xBy, .bool x.xNet.xCheat.xCry, .bool x.xNet.xQuarrel.xSome, .int .i64 x.xNet.xQuarrel.xFrom, .int .i64 x.xNet.xQuarrel.xCheck, .int .i64 x.xNet.xQuarrel.xTo, .int .i64 x.xNet.xQuarrel.xTold, .int .i64 x.xNet.xQuarrel.xHeard, .int .i64 x.xNet.xQuarrel.xOther, .int .i64 x.xNet.xQuarrel.xVowed] 43)
  replace h1 := Mat.alloc h1 (.cells #[.int .i64 x.xCode, .int .i64 x.xMirror.xQ, .slice p0 x.xMirror.xViews.length c0, .slice p1 x.xNet.xTape.length c1, .slice p2 x.xNet.xUsed.length c2, .int .i64 x.xNet.xSent, .slice p3 x.xNet.xHeard.length c3, .int .i64 x.xNet.xCheat.xWho, .int .i64 x.xNet.xCheat.xAt, .int .i64 x.xNet.xCheat.xBy, .bool x.xNet.xCheat.xCry, .bool x.xNet.xQuarrel.xSome, .int .i64 x.xNet.xQuarrel.xFrom, .int .i64 x.xNet.xQuarrel.xCheck, .int .i64 x.xNet.xQuarrel.xTo, .int .i64 x.xNet.xQuarrel.xTold, .int .i64 x.xNet.xQuarrel.xHeard, .int .i64 x.xNet.xQuarrel.xOther, .int .i64 x.xNet.xQuarrel.xVowed] 43)
  replace h2 := Ints.alloc h2 (.cells #[.int .i64 x.xCode, .int .i64 x.xMirror.xQ, .slice p0 x.xMirror.xViews.length c0, .slice p1 x.xNet.xTape.length c1, .slice p2 x.xNet.xUsed.length c2, .int .i64 x.xNet.xSent, .slice p3 x.xNet.xHeard.length c3, .int .i64 x.xNet.xCheat.xWho, .int .i64 x.xNet.xCheat.xAt, .int .i64 x.xNet.xCheat.xBy, .bool x.xNet.xCheat.xCry, .bool x.xNet.xQuarrel.xSome, .int .i64 x.xNet.xQuarrel.xFrom, .int .i64 x.xNet.xQuarrel.xCheck, .int .i64 x.xNet.xQuarrel.xTo, .int .i64 x.xNet.xQuarrel.xTold, .int .i64 x.xNet.xQuarrel.xHeard, .int .i64 x.xNet.xQuarrel.xOther, .int .i64 x.xNet.xQuarrel.xVowed] 43)
  replace h3 := Mat.alloc h3 (.cells #[.int .i64 x.xCode, .int .i64 x.xMirror.xQ, .slice p0 x.xMirror.xViews.length c0, .slice p1 x.xNet.xTape.length c1, .slice p2 x.xNet.xUsed.length c2, .int .i64 x.xNet.xSent, .slice p3 x.xNet.xHeard.length c3, .int .i64 x.xNet.xCheat.xWho, .int .i64 x.xNet.xCheat.xAt, .int .i64 x.xNet.xCheat.xBy, .bool x.xNet.xCheat.xCry, .bool x.xNet.xQuarrel.xSome, .int .i64 x.xNet.xQuarrel.xFrom, .int .i64 x.xNet.xQuarrel.xCheck, .int .i64 x.xNet.xQuarrel.xTo, .int .i64 x.xNet.xQuarrel.xTold, .int .i64 x.xNet.xQuarrel.xHeard, .int .i64 x.xNet.xQuarrel.xOther, .int .i64 x.xNet.xQuarrel.xVowed] 43)
  have O0 : Off (b0 ++ (b1 ++ (b2 ++ b3))) w (w.alloc (.cells #[.int .i64 x.xCode, .int .i64 x.xMirror.xQ, .slice p0 x.xMirror.xViews.length c0, .slice p1 x.xNet.xTape.length c1, .slice p2 x.xNet.xUsed.length c2, .int .i64 x.xNet.xSent, .slice p3 x.xNet.xHeard.length c3, .int .i64 x.xNet.xCheat.xWho, .int .i64 x.xNet.xCheat.xAt, .int .i64 x.xNet.xCheat.xBy, .bool x.xNet.xCheat.xCry, .bool x.xNet.xQuarrel.xSome, .int .i64 x.xNet.xQuarrel.xFrom, .int .i64 x.xNet.xQuarrel.xCheck, .int .i64 x.xNet.xQuarrel.xTo, .int .i64 x.xNet.xQuarrel.xTold, .int .i64 x.xNet.xQuarrel.xHeard, .int .i64 x.xNet.xQuarrel.xOther, .int .i64 x.xNet.xQuarrel.xVowed] 43)) := (Off.refl _ _).alloc _
  have HC : Hid (cntMixResult x = cntMirror x.xMirror + cntNet x.xNet) := rfl
  have hk'' := hk'
  rw [HC.out] at hk''
  clear hk'
  have C0 : Hid (cntMirror x.xMirror = cntMirror x.xMirror) := rfl
  have C1 : Hid (cntNet x.xNet = cntNet x.xNet) := rfl
  go_enter Tryz.func16, Tryz.ntmps16
  go_wp2_with fail
  refine (markMirror_ow _ x.xMirror b0 _ _ (by exact ⟨p0, c0, rfl, h0⟩) (by omega) (by omega)).mono ?_
  rintro e w1 ⟨rfl, m0, o1⟩
  have X1 := X0.off o1 (by simp [n0])
  have O1 := O0.trans (o1.mono (fun g hg => by simp [hg]))
  replace h1 := Mat.off h1 o1 (d01.symm)
  replace h2 := Ints.off h2 o1 (d02.symm)
  replace h3 := Mat.off h3 o1 (d03.symm)
  have xa := X1.at.1
  go_wp2_with fail
  clear xa
  refine (markNet_ow _ x.xNet b1 b2 b3 _ _ (by exact ⟨p1, c1, p2, c2, p3, c3, rfl, h1, h2, h3, d12, d13, d23⟩) (by omega) (by omega)).mono ?_
  rintro e w2 ⟨rfl, m1, o2⟩
  have O2 := O1.trans (o2.mono (fun g hg => by simp only [List.mem_append] at hg; rcases hg with h | h | h <;> simp [h]))
  replace m0 := OwMirror.off m0 o2 (fun g hg hm => by simp only [List.mem_append] at hm; exact hm.elim (d01 g hg) (fun h => h.elim (d02 g hg) (d03 g hg)))
  go_wp2
  go_ret
  refine ⟨by rw [HC.out]; go_num, ?_, O2⟩
  obtain ⟨P0, Q0, e0, m0_0⟩ := m0
  simp [mkMirror, marksM_length] at e0
  obtain ⟨rfl, rfl⟩ := e0
  obtain ⟨P1, Q1, P2, Q2, P3, Q3, e1, m1_1, m1_2, m1_3, _, _, _⟩ := m1
  simp [mkNet, mkTape, marksM_length, marks_length] at e1
  obtain ⟨⟨rfl, rfl⟩, ⟨rfl, rfl⟩, ⟨rfl, rfl⟩⟩ := e1
  refine ⟨p0, c0, p1, c1, p2, c2, p3, c3, by simp [mkMixResult, mkMirror, marksM_length, mkNet, mkTape, marks_length], ?_, ?_, ?_, ?_, d01, d02, d03, d12, d13, d23⟩
  · simpa [mkMixResult, mkMirror, marksM_length, mkNet, mkTape, marks_length] using m0_0
  · simpa [mkMixResult, mkMirror, marksM_length, mkNet, mkTape, marks_length] using m1_1
  · simpa [mkMixResult, mkMirror, marksM_length, mkNet, mkTape, marks_length] using m1_2
  · simpa [mkMixResult, mkMirror, marksM_length, mkNet, mkTape, marks_length] using m1_3
set_option maxHeartbeats 1000000 in
theorem heldMixResult_rd (v : Value) (x : MMixResult) (k : Int) (w : World) (hv : RdMixResult w v (mkMixResult k x)) (hk : 0 ≤ k) (hk' : k + (cntMixResult x : Nat) ≤ 536870912) :
    Calls Tryz.prog 17 #[v, .int .i64 k] w fun e w' => e = .returned (.int .i64 (k + (cntMixResult x : Nat))) ∧ Below w.heap.size w w' := by
  obtain ⟨p0, c0, p1, c1, p2, c2, p3, c3, rfl, h0, h1, h2, h3⟩ := hv
  have X0 := Blk.new w 43 #[.int .i64 (mkMixResult k x).xCode, .int .i64 (mkMixResult k x).xMirror.xQ, .slice p0 (mkMixResult k x).xMirror.xViews.length c0, .slice p1 (mkMixResult k x).xNet.xTape.length c1, .slice p2 (mkMixResult k x).xNet.xUsed.length c2, .int .i64 (mkMixResult k x).xNet.xSent, .slice p3 (mkMixResult k x).xNet.xHeard.length c3, .int .i64 (mkMixResult k x).xNet.xCheat.xWho, .int .i64 (mkMixResult k x).xNet.xCheat.xAt, .int .i64 (mkMixResult k x).xNet.xCheat.xBy, .bool (mkMixResult k x).xNet.xCheat.xCry, .bool (mkMixResult k x).xNet.xQuarrel.xSome, .int .i64 (mkMixResult k x).xNet.xQuarrel.xFrom, .int .i64 (mkMixResult k x).xNet.xQuarrel.xCheck, .int .i64 (mkMixResult k x).xNet.xQuarrel.xTo, .int .i64 (mkMixResult k x).xNet.xQuarrel.xTold, .int .i64 (mkMixResult k x).xNet.xQuarrel.xHeard, .int .i64 (mkMixResult k x).xNet.xQuarrel.xOther, .int .i64 (mkMixResult k x).xNet.xQuarrel.xVowed]
  have B0 : Below w.heap.size w (w.alloc (.cells #[.int .i64 (mkMixResult k x).xCode, .int .i64 (mkMixResult k x).xMirror.xQ, .slice p0 (mkMixResult k x).xMirror.xViews.length c0, .slice p1 (mkMixResult k x).xNet.xTape.length c1, .slice p2 (mkMixResult k x).xNet.xUsed.length c2, .int .i64 (mkMixResult k x).xNet.xSent, .slice p3 (mkMixResult k x).xNet.xHeard.length c3, .int .i64 (mkMixResult k x).xNet.xCheat.xWho, .int .i64 (mkMixResult k x).xNet.xCheat.xAt, .int .i64 (mkMixResult k x).xNet.xCheat.xBy, .bool (mkMixResult k x).xNet.xCheat.xCry, .bool (mkMixResult k x).xNet.xQuarrel.xSome, .int .i64 (mkMixResult k x).xNet.xQuarrel.xFrom, .int .i64 (mkMixResult k x).xNet.xQuarrel.xCheck, .int .i64 (mkMixResult k x).xNet.xQuarrel.xTo, .int .i64 (mkMixResult k x).xNet.xQuarrel.xTold, .int .i64 (mkMixResult k x).xNet.xQuarrel.xHeard, .int .i64 (mkMixResult k x).xNet.xQuarrel.xOther, .int .i64 (mkMixResult k x).xNet.xQuarrel.xVowed] 43)) := (by repeat (first | exact Below.refl _ _ | refine Below.drew ?_ | refine below_drewN ?_ _ | refine Below.setCell ?_ (by first | omega | (simp; done) | (simp; omega)) _ | refine Below.alloc ?_ (by first | omega | (simp; done) | (simp; omega)) _))
  replace h0 := h0.below B0
  replace h1 := h1.below B0
  replace h2 := h2.below B0
  replace h3 := h3.below B0
  have HC : Hid (cntMixResult x = cntMirror x.xMirror + cntNet x.xNet) := rfl
  have hk'' := hk'
  rw [HC.out] at hk''
  clear hk'
  go_enter Tryz.func17, Tryz.ntmps17
  go_wp2_with fail
  refine (heldMirror_rd _ x.xMirror _ _ (by exact ⟨p0, c0, rfl, h0⟩) (by omega) (by omega)).mono ?_
  rintro e w1 ⟨rfl, hb1⟩
  have X1 := X0.keep hb1
  have B1 : Below w.heap.size w w1 := B0.trans (hb1.mono B0.size)
  replace h1 := h1.below hb1
  replace h2 := h2.below hb1
  replace h3 := h3.below hb1
  have xa := X1.at.1
  go_wp2_with fail
  clear xa
  refine (heldNet_rd _ x.xNet _ _ (by exact ⟨p1, c1, p2, c2, p3, c3, rfl, h1, h2, h3⟩) (by omega) (by omega)).mono ?_
  rintro e w2 ⟨rfl, hb2⟩
  have B2 : Below w.heap.size w w2 := B1.trans (hb2.mono B1.size)
  go_wp2
  go_ret
  exact ⟨by rw [HC.out]; go_num, B2⟩
-- OpenResult
/-- the plain shape of OpenResult -/
structure MOpenResult where
  xCode : Int
  xValues : List Int
def RdOpenResult (w : World) (v : Value) (x : MOpenResult) : Prop := ∃ p0 c0, v = .agg #[.int .i64 x.xCode, .slice p0 x.xValues.length c0] ∧ Reads w .i64 (.slice p0 x.xValues.length c0) x.xValues
def OwOpenResult (w : World) (v : Value) (x : MOpenResult) (b0 : List Nat) : Prop := ∃ p0 c0, v = .agg #[.int .i64 x.xCode, .slice p0 x.xValues.length c0] ∧ Ints w (.slice p0 x.xValues.length c0) x.xValues b0
theorem RdOpenResult.below {w w' : World} {v : Value} {x : MOpenResult} (h : RdOpenResult w v x) (hb : Below w.heap.size w w') : RdOpenResult w' v x := by
  obtain ⟨p0, c0, e, h0⟩ := h
  exact ⟨p0, c0, e, h0.below hb⟩
theorem OwOpenResult.rd {w : World} {v : Value} {x : MOpenResult} {b0 : List Nat} (h : OwOpenResult w v x b0) : RdOpenResult w v x := by
  obtain ⟨p0, c0, e, h0⟩ := h
  exact ⟨p0, c0, e, Ints.reads h0⟩
theorem OwOpenResult.keep {w : World} {v : Value} {x : MOpenResult} {b0 : List Nat} {w' : World} (h : OwOpenResult w v x b0) (hb : Below w.heap.size w w') : OwOpenResult w' v x b0 := by
  obtain ⟨p0, c0, e, h0⟩ := h
  exact ⟨p0, c0, e, Ints.keep h0 hb⟩
theorem OwOpenResult.off {w : World} {v : Value} {x : MOpenResult} {b0 : List Nat} {w' : World} {cs : List Nat} (h : OwOpenResult w v x b0) (hb : Off cs w w') (k : Dj (b0) cs) : OwOpenResult w' v x b0 := by
  obtain ⟨p0, c0, e, h0⟩ := h
  exact ⟨p0, c0, e, Ints.off h0 hb (fun g hg => k g (by simp [hg]))⟩
theorem OwOpenResult.lt {w : World} {v : Value} {x : MOpenResult} {b0 : List Nat} (h : OwOpenResult w v x b0) : ∀ g ∈ b0, g < w.heap.size := by
  obtain ⟨p0, c0, e, h0⟩ := h
  exact Ints.lt h0
theorem OwOpenResult.shp {w : World} {v : Value} {x : MOpenResult} {b0 : List Nat} (h : OwOpenResult w v x b0) : ∃ p0 c0, v = .agg #[.int .i64 x.xCode, .slice p0 x.xValues.length c0] := by
  obtain ⟨p0, c0, e, _⟩ := h
  exact ⟨p0, c0, e⟩
theorem OwOpenResult.alloc {w : World} {v : Value} {x : MOpenResult} {b0 : List Nat} (h : OwOpenResult w v x b0) (o : Obj) : OwOpenResult (w.alloc o) v x b0 := h.keep ((Below.refl _ _).alloc (Nat.le_refl _) _)
theorem OwOpenResult.drew {w : World} {v : Value} {x : MOpenResult} {b0 : List Nat} (h : OwOpenResult w v x b0) : OwOpenResult w.drew v x b0 := h.keep (Below.refl _ _).drew
def totOpenResult (x : MOpenResult) : Nat := x.xValues.length
def cntOpenResult (x : MOpenResult) : Nat := x.xValues.length
theorem cntOpenResult_le (x : MOpenResult) : cntOpenResult x ≤ totOpenResult x := by
  unfold cntOpenResult totOpenResult
  omega
def mkOpenResult (k : Int) (x : MOpenResult) : MOpenResult := { x with xValues := marks k x.xValues.length }
-- TableResult
/-- the plain shape of TableResult -/
structure MTableResult where
  xCode : Int
  xRows : List (List Int)
def RdTableResult (w : World) (v : Value) (x : MTableResult) : Prop := ∃ p0 c0, v = .agg #[.int .i64 x.xCode, .slice p0 x.xRows.length c0] ∧ ReadsM w (.slice p0 x.xRows.length c0) x.xRows
def OwTableResult (w : World) (v : Value) (x : MTableResult) (b0 : List Nat) : Prop := ∃ p0 c0, v = .agg #[.int .i64 x.xCode, .slice p0 x.xRows.length c0] ∧ Mat w (.slice p0 x.xRows.length c0) x.xRows b0
theorem RdTableResult.below {w w' : World} {v : Value} {x : MTableResult} (h : RdTableResult w v x) (hb : Below w.heap.size w w') : RdTableResult w' v x := by
  obtain ⟨p0, c0, e, h0⟩ := h
  exact ⟨p0, c0, e, h0.below hb⟩
theorem OwTableResult.rd {w : World} {v : Value} {x : MTableResult} {b0 : List Nat} (h : OwTableResult w v x b0) : RdTableResult w v x := by
  obtain ⟨p0, c0, e, h0⟩ := h
  exact ⟨p0, c0, e, Mat.reads h0⟩
theorem OwTableResult.keep {w : World} {v : Value} {x : MTableResult} {b0 : List Nat} {w' : World} (h : OwTableResult w v x b0) (hb : Below w.heap.size w w') : OwTableResult w' v x b0 := by
  obtain ⟨p0, c0, e, h0⟩ := h
  exact ⟨p0, c0, e, Mat.keep h0 hb⟩
theorem OwTableResult.off {w : World} {v : Value} {x : MTableResult} {b0 : List Nat} {w' : World} {cs : List Nat} (h : OwTableResult w v x b0) (hb : Off cs w w') (k : Dj (b0) cs) : OwTableResult w' v x b0 := by
  obtain ⟨p0, c0, e, h0⟩ := h
  exact ⟨p0, c0, e, Mat.off h0 hb (fun g hg => k g (by simp [hg]))⟩
theorem OwTableResult.lt {w : World} {v : Value} {x : MTableResult} {b0 : List Nat} (h : OwTableResult w v x b0) : ∀ g ∈ b0, g < w.heap.size := by
  obtain ⟨p0, c0, e, h0⟩ := h
  exact Mat.lt h0
theorem OwTableResult.shp {w : World} {v : Value} {x : MTableResult} {b0 : List Nat} (h : OwTableResult w v x b0) : ∃ p0 c0, v = .agg #[.int .i64 x.xCode, .slice p0 x.xRows.length c0] := by
  obtain ⟨p0, c0, e, _⟩ := h
  exact ⟨p0, c0, e⟩
theorem OwTableResult.alloc {w : World} {v : Value} {x : MTableResult} {b0 : List Nat} (h : OwTableResult w v x b0) (o : Obj) : OwTableResult (w.alloc o) v x b0 := h.keep ((Below.refl _ _).alloc (Nat.le_refl _) _)
theorem OwTableResult.drew {w : World} {v : Value} {x : MTableResult} {b0 : List Nat} (h : OwTableResult w v x b0) : OwTableResult w.drew v x b0 := h.keep (Below.refl _ _).drew
def totTableResult (x : MTableResult) : Nat := (tot x.xRows)
def cntTableResult (x : MTableResult) : Nat := sl x.xRows
theorem cntTableResult_le (x : MTableResult) : cntTableResult x ≤ totTableResult x := by
  have := sl_le_tot x.xRows
  unfold cntTableResult totTableResult
  omega
def mkTableResult (k : Int) (x : MTableResult) : MTableResult := { x with xRows := marksM k x.xRows }
end Go.Proofs.YtepobckhfodngaoGreat
