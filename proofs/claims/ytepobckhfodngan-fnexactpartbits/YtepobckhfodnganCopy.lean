/-
  Copies of lists of whole numbers: by make and copy in the program, by append in its model.
-/
import Derived.Test.YtepobckhfodnganTy
import Derived.Laws.CopyOwn
import Derived.Laws.AppendOwnNone
namespace Go.Proofs.Ytepobckhfodngan
open Go.ChangeShapes Go.WideShapes Go.ChangeAt Go.RowKit
set_option linter.unusedVariables false

theorem run_append_owned_nil {P : Program} {w : World} (base : Nat) (t ty e : TypeId) (i : TypeInfo) (size c : Nat) (ht : P.underlying t = some (.slice e)) (hi : P.info? e = some i)
    (v : Value) (n : Nat) (xs : List Value) (hown : w.ownsRow base e size v n xs) :
    (Builtin.append_ #[t, t] ty #[v, .slice none 0 c]).run P w = .ok v w := by
  rcases hown.2 with ⟨rfl, rfl⟩ | ⟨g, cap, cur, rfl, _, _, hnc, _⟩
  · simp [Builtin.append_, run_underlying ht, sizeOf, typeInfo, hi, Builtin.lenOf, Builtin.firstCells]
  · simp [Builtin.append_, run_underlying ht, sizeOf, typeInfo, hi, Builtin.lenOf, Builtin.firstCells, hnc, storeCells]
theorem wpList_append_own_nil {P : Program} {w : World} {ops : Array Oper} {rest : List Oper} {o : Oper} {a : Act} {Q : Exit → Act → World → Prop} (hgd : o.guard = none) (s x : Operand) (t : TypeId)
    (ho : o.op = .call { callee := .builtin .append, args := #[s, x], argTypes := #[t, t] })
    (base : Nat) (e : TypeId) (i : TypeInfo) (size c : Nat) (ht : P.underlying t = some (.slice e)) (hi : P.info? e = some i)
    (v : Value) (n : Nat) (xs : List Value) (hs : a.eval s = v) (hown : w.ownsRow base e size v n xs) (hx : a.eval x = .slice none 0 c)
    (h : wpList P ops Q rest (a.put o.dst v) w) : wpList P ops Q (o :: rest) a w := by
  refine wpList_plain hgd fun K hK => ?_
  have hrun := run_append_owned_nil (P := P) (w := w) base t o.type e i size c ht hi v n xs hown
  unfold Oper.wp
  simp [execOp, ho, resolve, invoke, builtin, hs, hx, hrun, Result.andThen]
  exact hK _ _ h
/-- the cells of a list that is read -/
theorem Reads.cells {w : World} {k : IntKind} {a : Option Addr} {n c : Nat} {xs : List Int} (h : Reads w k (.slice a n c) xs) (hx : xs ≠ []) :
    ∃ ad, a = some ad ∧ ∀ j v, (xs.map (Value.int k))[j]? = some v → w.cell? (ad.add j) = some v := by
  obtain ⟨a', cap, e, hm, hA⟩ := h
  simp at e
  obtain ⟨rfl, _, rfl⟩ := e
  obtain ⟨b, off, rfl, hlt, hc⟩ := hA hx
  refine ⟨_, rfl, fun j v hv => ?_⟩
  simp only [List.getElem?_map, Option.map_eq_some_iff] at hv
  obtain ⟨y, hy, rfl⟩ := hv
  obtain ⟨hj, rfl⟩ := List.getElem?_eq_some_iff.1 hy
  have e : (⟨b, off, none⟩ : Addr).add j = ⟨b, off + j, none⟩ := by
    unfold Addr.add
    split
    · subst_vars; rfl
    · rfl
  rw [e, hc j hj]
  simp [hj]
set_option maxHeartbeats 800000 in
set_option maxRecDepth 100000 in
theorem spec_l1Copy (v : Value) (xs : List Int) (w : World) (hv : Reads w .i64 v xs) (hl : xs.length ≤ 16777216) :
    Calls Try.prog 76 #[v] w fun e w' => ∃ u bs, e = .returned u ∧ Ints w' u xs bs ∧ (∀ y ∈ bs, w.heap.size ≤ y) ∧ Below w.heap.size w w' := by
  obtain ⟨i0, hi, hz0, hz1, hz2⟩ := info_parts Try.infoI
  obtain ⟨a, ca, rfl⟩ := hv.shp
  have hm := hv.le
  have hv1 := hv.below (w' := w.alloc (.cells #[] 2)) ((Below.refl _ _).alloc (Nat.le_refl _) _)
  have hown : (w.alloc (.cells #[] 2)).ownsRow w.heap.size 2 1 (.slice (some ⟨w.heap.size, 0, none⟩) 0 0) 0 [] := World.ownsRow_lit (base := w.heap.size) (e := 2) (size := 1) w #[] 0 (Nat.le_refl _) (Nat.zero_le _) rfl
  have HC := fun (h : xs ≠ []) => hv1.cells h
  by_cases hx : xs = []
  · subst hx
    clear HC hv hv1
    simp only [List.length_nil]
    rcases a with _ | ad
    · go_enter Try.func76, Try.ntmps76
      go_wp2_with (at_builtin; refine wpList_append_own_nil rfl _ _ 71 rfl w.heap.size 2 i0 1 _ Try.underlying71 hi _ _ _ rfl hown rfl ?_)
      go_wp2
      go_ret
      obtain ⟨bs, h1, h2⟩ := Own.of_owns hown
      exact ⟨_, bs, rfl, ⟨_, h1⟩, h2, (by repeat (first | exact Below.refl _ _ | refine Below.drew ?_ | refine below_drewN ?_ _ | refine Below.setCell ?_ (by first | omega | (simp; done) | (simp; omega)) _ | refine Below.alloc ?_ (by first | omega | (simp; done) | (simp; omega)) _))⟩
    · go_enter Try.func76, Try.ntmps76
      go_wp2_with (at_builtin; refine wpList_append_own _ rfl _ _ 71 rfl w.heap.size 2 i0 (.int .i64 0) 1 8 Try.underlying71 hi hz0 hz1 hz2 rfl (by decide) _ _ _ rfl hown ad 0 _ [] rfl rfl ?c1 ?c2 ?c3 ?c4 ?c5 ?_)
      case c1 => intro j u hu; simp at hu
      case c2 => intro u hu; cases hu
      case c3 => exact Nat.zero_le _
      case c4 => omega
      case c5 => simp
      intro v' w1 hown' hgrow _
      have hb' : Below w.heap.size w w1 := ((Below.refl _ _).alloc (Nat.le_refl _) _).grown hgrow (by simp) (fun k e => (hown.lt k e).1)
      go_wp2
      go_ret
      obtain ⟨bs, h1, h2⟩ := Own.of_owns hown'
      exact ⟨_, bs, rfl, ⟨_, h1⟩, h2, hb'⟩
  · obtain ⟨ad, rfl, hcell⟩ := HC hx
    clear HC hv hv1
    generalize hZ : xs.map (Value.int .i64) = Z at *
    have HZ : Hid (Z = xs.map (Value.int .i64)) := hZ.symm
    have hZl : Z.length = xs.length := by rw [← hZ, List.length_map]
    have hZ1 : ∀ v ∈ Z, v.oneCell' = true := by rw [← hZ]; intro u hu; obtain ⟨y, _, rfl⟩ := List.mem_map.1 hu; rfl
    clear hZ
    go_enter Try.func76, Try.ntmps76
    go_wp2_with (at_builtin; refine wpList_append_own _ rfl _ _ 71 rfl w.heap.size 2 i0 (.int .i64 0) 1 8 Try.underlying71 hi hz0 hz1 hz2 rfl (by decide) _ _ _ rfl hown ad xs.length ca Z rfl ?c0 hcell hZ1 ?c3 ?c4 ?c5 ?_)
    case c0 => rw [hZl]; omega
    case c3 => omega
    case c4 => omega
    case c5 => simp
    intro v' w1 hown' hgrow _
    have hb' : Below w.heap.size w w1 := ((Below.refl _ _).alloc (Nat.le_refl _) _).grown hgrow (by simp) (fun k e => (hown.lt k e).1)
    go_wp2
    go_ret
    obtain ⟨bs, h1, h2⟩ := Own.of_owns hown'
    refine ⟨_, bs, rfl, ?_, h2, hb'⟩
    rw [HZ.out] at h1
    exact ⟨_, by simpa using h1⟩
end Go.Proofs.Ytepobckhfodngan
