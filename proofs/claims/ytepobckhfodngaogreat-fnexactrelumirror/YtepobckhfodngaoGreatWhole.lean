/-
  Whole structs read out of a block and laid into one, their cells whatever: at a store the world becomes a letter of which just that is known. Nothing of the program is named here.
-/
import Derived.Test.YtepobckhfodngaoGreatTy
import Derived.Deep.MidRow
import Derived.Deep.RegionHeld3
import Derived.Deep.RegionLaw
namespace Go.Proofs.YtepobckhfodngaoGreat
open Go.ChangeShapes Go.WideShapes Go.ChangeAt Go.RowKit
set_option linter.unusedVariables false

theorem Blk.range {w : World} {b : Nat} {T : TypeId} {cs : Array Value} (h : Blk w b T cs) : w.rangeAt b 0 cs.toList := fun j v hv => by
  rw [Nat.zero_add, h.at.1]
  simpa using hv
theorem Blk.there {w : World} {b : Nat} {T : TypeId} {cs : Array Value} (h : Blk w b T cs) : w.there b 0 cs.size := fun j hj => by
  rw [Nat.zero_add, h.at.1]
  exact ⟨by simp [hj], h.at.2 j⟩
theorem Blk.setCells {b : Nat} {T : TypeId} : ∀ (vs : List Value) (o : Nat) (w : World) (cs : Array Value), Blk w b T cs → cs.size = o + vs.length → Blk (w.setCells b o vs) b T (cs.toList.take o ++ vs).toArray
  | [], o, w, cs, h, hs => by
    rw [World.setCells]
    exact Blk.of_eq h (by simp at hs; simp [List.take_of_length_le, hs])
  | v :: r, o, w, cs, h, hs => by
    rw [World.setCells]
    have h1 := Blk.setCells r (o + 1) _ _ (h.set o v) (by simp at hs ⊢; omega)
    refine Blk.of_eq h1 ?_
    congr 1
    simp only [List.length_cons] at hs
    have e : (cs.setIfInBounds o v).toList.take (o + 1) = cs.toList.take o ++ [v] := by
      rw [Array.toList_setIfInBounds, List.take_succ_eq_append_getElem (by simp; omega)]
      simp [List.take_set_of_le]
    rw [e]
    simp
theorem Off.setCells {b : Nat} : ∀ (vs : List Value) (o : Nat) (w : World), Off [b] w (w.setCells b o vs)
  | [], _, w => Off.refl _ w
  | v :: r, o, w => by
    rw [World.setCells]
    exact ((Off.refl _ _).setCell _ _ (by simp)).trans (Off.setCells r (o + 1) _)
theorem Blk.whole {w : World} {b : Nat} {T : TypeId} {cs ds : Array Value} (h : Blk w b T cs) (hs : cs.size = ds.size) : Blk (w.setCells b 0 ds.toList) b T ds :=
  Blk.of_eq (Blk.setCells ds.toList 0 w cs h (by simp [hs])) (by simp)
/-- a whole struct is read -/
theorem wpList_load_blk {P : Program} {ops : Array Oper} {rest : List Oper} {op : Oper} {a : Act} {w : World} {Q : Exit → Act → World → Prop} (hgd : op.guard = none) (T : TypeId) (x : Operand) (ho : op.op = .load T x)
    (b : Nat) (hx : a.eval x = .pointer (some ⟨b, 0, none⟩)) {cs : Array Value} {T' : TypeId} (h : Blk w b T' cs) {d : TypeDesc}
    (hu : P.underlying T = some d) (hd : d.isRow = true) (hi : (P.info? T).map (·.size) = some cs.size)
    (k : wpList P ops Q rest (a.put op.dst (.agg cs)) w) : wpList P ops Q (op :: rest) a w :=
  wpList_load_mid hgd T x ho b 0 hx cs.toList d h.range hu hd (by simpa using hi) (by simpa using k)
/-- the same of a load that may be guarded -/
theorem wpList_load_blkg {P : Program} {ops : Array Oper} {rest : List Oper} {op : Oper} {a : Act} {w : World} {Q : Exit → Act → World → Prop} (hw : Region.wanted op (yielded ops a.tmps) = true) (T : TypeId) (x : Operand) (ho : op.op = .load T x)
    (b : Nat) (hx : a.eval x = .pointer (some ⟨b, 0, none⟩)) {cs : Array Value} {T' : TypeId} (h : Blk w b T' cs) {d : TypeDesc}
    (hu : P.underlying T = some d) (hd : d.isRow = true) (hi : (P.info? T).map (·.size) = some cs.size)
    (k : wpList P ops Q rest (a.put op.dst (.agg cs)) w) : wpList P ops Q (op :: rest) a w :=
  wpList_step fun K hK => by
    rw [if_pos hw]
    exact wp_load_mid T x ho b 0 hx cs.toList d h.range hu hd (by simpa using hi) (hK _ _ (by simpa using k))
/-- a whole struct is laid into its block -/
theorem wpList_store_blk {P : Program} {ops : Array Oper} {rest : List Oper} {op : Oper} {a : Act} {w : World} {Q : Exit → Act → World → Prop} (hgd : op.guard = none) (T : TypeId) (x y : Operand) (ho : op.op = .store T x y)
    (b : Nat) (cs : Array Value) (hx : a.eval x = .pointer (some ⟨b, 0, none⟩)) (hy : a.eval y = .agg cs) {cs0 : Array Value} {T' : TypeId} (h : Blk w b T' cs0) (hs : cs0.size = cs.size)
    (hi : (P.info? T).map (·.size) = some cs.size) (h1 : cs.all (·.oneCell') = true)
    (k : ∀ w', Blk w' b T' cs → Off [b] w w' → wpList P ops Q rest (a.put op.dst undef) w') : wpList P ops Q (op :: rest) a w :=
  wpList_store_mid hgd T x y ho b 0 cs hx hy (hs ▸ h.there) hi h1 (k _ (h.whole hs) (Off.setCells _ _ _))
/-- the same two as steps of a region that draws its order -/
theorem step_load_blk {P : Program} {w : World} {ops : Array Oper} {o : Oper} {a : Act} {K : Act → World → Prop} {Q : Exit → Act → World → Prop} {E : Prop} (hgd : o.guard = none) (T : TypeId) (x : Operand) (ho : o.op = .load T x)
    (b : Nat) (hx : a.eval x = .pointer (some ⟨b, 0, none⟩)) {cs : Array Value} {T' : TypeId} (h : Blk w b T' cs) {d : TypeDesc}
    (hu : P.underlying T = some d) (hd : d.isRow = true) (hi : (P.info? T).map (·.size) = some cs.size) (k : K (a.put o.dst (.agg cs)) w) :
    if Region.wanted o (yielded ops a.tmps) = true then Oper.wp P o a w K Q else E := by
  rw [if_pos (by simp [Region.wanted, hgd])]
  exact wp_load_mid T x ho b 0 hx cs.toList d h.range hu hd (by simpa using hi) (by simpa using k)
theorem step_store_blk {P : Program} {w : World} {ops : Array Oper} {o : Oper} {a : Act} {K : Act → World → Prop} {Q : Exit → Act → World → Prop} {E : Prop} (hgd : o.guard = none) (T : TypeId) (x y : Operand) (ho : o.op = .store T x y)
    (b : Nat) (cs : Array Value) (hx : a.eval x = .pointer (some ⟨b, 0, none⟩)) (hy : a.eval y = .agg cs) {cs0 : Array Value} {T' : TypeId} (h : Blk w b T' cs0) (hs : cs0.size = cs.size)
    (hi : (P.info? T).map (·.size) = some cs.size) (h1 : cs.all (·.oneCell') = true) (k : ∀ w', Blk w' b T' cs → Off [b] w w' → K (a.put o.dst undef) w') :
    if Region.wanted o (yielded ops a.tmps) = true then Oper.wp P o a w K Q else E := by
  rw [if_pos (by simp [Region.wanted, hgd])]
  exact wp_store_mid T x y ho b 0 cs hx hy (hs ▸ h.there) hi h1 (k _ (h.whole hs) (Off.setCells _ _ _))
/-- cells that may be laid into a block of n cells -/
def Rw (n : Nat) (cs : Array Value) : Prop := cs.size = n ∧ cs.all (·.oneCell') = true
theorem Rw.hi {n : Nat} {cs : Array Value} {P : Program} {T : TypeId} (R : Rw n cs) (h : (P.info? T).map (·.size) = some n) : (P.info? T).map (·.size) = some cs.size := by rw [R.1]; exact h
theorem nbnew {b n : Nat} (h : b < n) : b ∉ [n] := fun hm => by simp at hm; omega
theorem djnew {bs : List Nat} {n : Nat} (h : ∀ y ∈ bs, y < n) : Dj bs [n] := fun y hy hm => by have := h y hy; simp at hm; omega
theorem below_past {w W V : World} {o : Obj} (B : Below w.heap.size w W) (O : Off [W.heap.size] (W.alloc o) V) : Below w.heap.size w V :=
  (B.alloc B.size _).trans (O.toBelow (by have := B.size; simp; omega) (by have := B.size; simp; omega))
theorem RdNet.row {w : World} {v : Value} {x : MNet} (h : RdNet w v x) : ∃ cs, v = .agg cs ∧ Rw 16 cs := by
  obtain ⟨p0, c0, p1, c1, p2, c2, rfl, _⟩ := h
  exact ⟨_, rfl, rfl, by kernel_rfl⟩
theorem OwNet.row {w : World} {v : Value} {x : MNet} {b0 b1 b2 : List Nat} (h : OwNet w v x b0 b1 b2) : ∃ cs, v = .agg cs ∧ Rw 16 cs := h.rd.row
/-- what a function hands back that lies in one block -/
theorem results_blk {P : Program} {fn : Func} {t : Tmp} {T : TypeId} (h : fn.results = #[.cell t T]) {tmps : Array Value} {b : Nat} (hx : tmps.getD t undef = .pointer (some ⟨b, 0, none⟩)) {w : World} {cs : Array Value} {T' : TypeId} (hb : Blk w b T' cs) {d : TypeDesc}
    (hu : P.underlying T = some d) (hd : d.isRow = true) (hi : (P.info? T).map (·.size) = some cs.size) : (results fn tmps).run P w = .ok (.agg cs) w := by
  have hl := run_loadVar_mid (P := P) w b 0 T cs.toList d hb.range hu hd (by simpa using hi)
  simp only [Array.toArray_toList] at hl
  rw [results, h]
  simp only [List.mapM_toArray, List.mapM_cons, List.mapM_nil, hx]
  simp [asAddr, hl]
end Go.Proofs.YtepobckhfodngaoGreat
