/-
  Copies of lists of whole numbers: by make and copy in the program, by append in its model.
-/
import Derived.Test.YtepobckhfodngaoGreatTy
import Derived.Laws.CopyOwn
import Derived.Laws.AppendOwnNone
namespace Go.Proofs.YtepobckhfodngaoGreat
open Go.ChangeShapes Go.WideShapes Go.ChangeAt Go.RowKit
set_option linter.unusedVariables false

theorem run_append_owned_nil {P : Program} {w : World} (base : Nat) (t ty e : TypeId) (i : TypeInfo) (size c : Nat) (ht : P.underlying t = some (.slice e)) (hi : P.info? e = some i)
    (v : Value) (n : Nat) (xs : List Value) (hown : w.ownsRow base e size v n xs) :
    (Builtin.append_ #[t, t] ty #[v, .slice none 0 c]).run P w = .ok v w := by
  rcases hown.2 with ⟨rfl, rfl⟩ | ⟨g, cap, cur, rfl, _, _, hnc, _⟩
  · simp [Builtin.append_, run_underlying ht, sizeOf, typeInfo, hi, Builtin.lenOf, Builtin.firstCells]
  · simp [Builtin.append_, run_underlying ht, sizeOf, typeInfo, hi, Builtin.lenOf, Builtin.firstCells, hnc, storeCells]
theorem wpList_append_own_nil {P : Program} {w : World} {ops : Array Oper} {rest : List Oper} {o : Oper} {a : Act} {Q : Exit → Act → World → Prop} (hgd : o.guard = none) (s x : Operand) (t : TypeId)
    (ho : o.op = .call { callee := .builtin .append, args := #[s, x], argTypes := #[t, t] })
    (base : Nat) (e : TypeId) (i : TypeInfo) (size c : Nat) (ht : P.underlying t = some (.slice e)) (hi : P.info? e = some i)
    (v : Value) (n : Nat) (xs : List Value) (hs : a.eval s = v) (hown : w.ownsRow base e size v n xs) (hx : a.eval x = .slice none 0 c)
    (h : wpList P ops Q rest (a.put o.dst v) w) : wpList P ops Q (o :: rest) a w := by
  refine wpList_plain hgd fun K hK => ?_
  have hrun := run_append_owned_nil (P := P) (w := w) base t o.type e i size c ht hi v n xs hown
  unfold Oper.wp
  simp [execOp, ho, resolve, invoke, builtin, hs, hx, hrun, Result.andThen]
  exact hK _ _ h
/-- the cells of a list that is read -/
theorem Reads.cells {w : World} {k : IntKind} {a : Option Addr} {n c : Nat} {xs : List Int} (h : Reads w k (.slice a n c) xs) (hx : xs ≠ []) :
    ∃ ad, a = some ad ∧ ∀ j v, (xs.map (Value.int k))[j]? = some v → w.cell? (ad.add j) = some v := by
  obtain ⟨a', cap, e, hm, hA⟩ := h
  simp at e
  obtain ⟨rfl, _, rfl⟩ := e
  obtain ⟨b, off, rfl, hlt, hc⟩ := hA hx
  refine ⟨_, rfl, fun j v hv => ?_⟩
  simp only [List.getElem?_map, Option.map_eq_some_iff] at hv
  obtain ⟨y, hy, rfl⟩ := hv
  obtain ⟨hj, rfl⟩ := List.getElem?_eq_some_iff.1 hy
  have e : (⟨b, off, none⟩ : Addr).add j = ⟨b, off + j, none⟩ := by
    unfold Addr.add
    split
    · subst_vars; rfl
    · rfl
  rw [e, hc j hj]
  simp [hj]
set_option maxHeartbeats 800000 in
set_option maxRecDepth 100000 in
theorem impl_copyOf (v : Value) (xs : List Int) (w : World) (hv : Reads w .i64 v xs) (hl : xs.length ≤ 16777216) :
    Calls Tryz.prog 69 #[v] w fun e w' => ∃ u bs, e = .returned u ∧ Ints w' u xs bs ∧ (∀ y ∈ bs, w.heap.size ≤ y) ∧ Below w.heap.size w w' := by
  obtain ⟨i0, hi, hz0, hz1, hz2⟩ := info_parts Tryz.infoI
  obtain ⟨a, ca, rfl⟩ := hv.shp
  have hm := hv.le
  have HC := fun w (h : Reads w .i64 (.slice a xs.length ca) xs) => h.cells
  generalize hn : xs.length = n at *
  have HN : Hid (xs.length = n) := hn
  clear hn
  go_enter Tryz.func69, Tryz.ntmps69
  go_wp2_with (at_make; refine wpList_make_full _ rfl _ _ 25 rfl w.heap.size 2 i0 (.int .i64 0) 1 Tryz.underlying25 hi hz0 hz1 _ _ _ _ n rfl rfl rfl rfl (by rw [hz2]; omega) hm (Nat.le_refl _) ?_)
  intro w1 hown hgrow
  have hb1 : Below w.heap.size w w1 := (Below.refl _ _).grown hgrow (Nat.le_refl _) (fun k hk => by cases hk)
  have hg : w1.heap[w.heap.size]? = some (.cells (List.replicate n (Value.int .i64 0)).toArray 2 (0, 0)) := by
    obtain ⟨h1, h2⟩ := hown
    rcases h2 with ⟨h, _⟩ | ⟨g, cap, cur, h, _, hh, _, _, hs, ht⟩
    · cases h
    · simp only [Value.slice.injEq, Option.some.injEq, Addr.mk.injEq, and_true, true_and] at h
      obtain ⟨rfl, rfl⟩ := h
      rw [hh]
      congr 2
      rw [toList_madeCells_one] at ht
      rw [← ht, List.take_of_length_le (by simp [hs])]
  clear hown hgrow
  have hv1 := hv.below hb1
  obtain ⟨Z, hZ⟩ : ∃ Z, Z = xs.map (Value.int .i64) := ⟨_, rfl⟩
  have HZ : Hid (Z = xs.map (Value.int .i64)) := hZ
  have hZl : Z.length = n := by rw [hZ, List.length_map]; exact HN.out
  have hZ1 : ∀ v ∈ Z, v.oneCell' = true := by rw [hZ]; intro u hu; obtain ⟨y, _, rfl⟩ := List.mem_map.1 hu; rfl
  have hsz : (Tryz.prog.info? 2).map (·.size) = some 1 := by rw [hi]; simp [hz1]
  obtain ⟨w2, hrun, hg2, hb2⟩ : ∃ w2, (Builtin.copy_ #[25, 25] 3 #[.slice (some ⟨w.heap.size, 0, none⟩) n n, .slice a n ca]).run Tryz.prog w1 = .ok (goInt n) w2 ∧ Hid (w2.heap[w.heap.size]? = some (.cells Z.toArray 2 (0, 0))) ∧ Below w.heap.size w w2 := by
    by_cases h0 : n = 0
    · subst h0
      refine ⟨w1, run_copy_none w1 _ _ _ 2 _ _ _ _ _ _ Tryz.underlying25 hsz rfl, ?_, hb1⟩
      have : Z = [] := List.eq_nil_of_length_eq_zero hZl
      rw [this]
      exact hg
    · obtain ⟨ad, rfl, hcell⟩ := HC w1 hv1 (by intro h'; have := HN.out; rw [h'] at this; simp at this; omega)
      rw [← hZ] at hcell
      have hr := run_copy_row (P := Tryz.prog) w1 25 25 3 2 w.heap.size 0 n n ad n ca (List.replicate n (Value.int .i64 0)).toArray 2 Z Tryz.underlying25 hsz hg (by rw [hZl]; exact (Nat.min_self n).symm) hcell (by simp [hZl]) hZ1
      rw [hZl] at hr
      refine ⟨_, hr, ?_, below_setRow hb1 (Nat.le_refl _) _⟩
      have hs := setRow_heap w1 w.heap.size (List.replicate n (Value.int .i64 0)).toArray (List.take 0 (List.replicate n (Value.int .i64 0)).toArray.toList ++ Z ++ List.drop (0 + n) (List.replicate n (Value.int .i64 0)).toArray.toList).toArray 2 (0, 0) hg
      show _ = _
      rw [hs]
      simp
  clear HC hZ hv hv1 hg hb1 hsz
  go_wp2
  go_ret
  refine ⟨_, [w.heap.size], rfl, ⟨2, by simp, .inr ⟨w.heap.size, n, _, rfl, by rw [HN.out]; rfl, hg2.out, by rw [HN.out]; exact Nat.le_refl _, hm, ?_, ?_⟩⟩, by simp, hb2⟩
  · simp [hZl]
  · rw [HZ.out, List.take_of_length_le (by simp)]
set_option maxHeartbeats 800000 in
set_option maxRecDepth 100000 in
theorem spec_l1Copy (v : Value) (xs : List Int) (w : World) (hv : Reads w .i64 v xs) (hl : xs.length ≤ 16777216) :
    Calls Tryz.prog 61 #[v] w fun e w' => ∃ u bs, e = .returned u ∧ Ints w' u xs bs ∧ (∀ y ∈ bs, w.heap.size ≤ y) ∧ Below w.heap.size w w' := by
  obtain ⟨i0, hi, hz0, hz1, hz2⟩ := info_parts Tryz.infoI
  obtain ⟨a, ca, rfl⟩ := hv.shp
  have hm := hv.le
  have hv1 := hv.below (w' := w.alloc (.cells #[] 2)) ((Below.refl _ _).alloc (Nat.le_refl _) _)
  have hown : (w.alloc (.cells #[] 2)).ownsRow w.heap.size 2 1 (.slice (some ⟨w.heap.size, 0, none⟩) 0 0) 0 [] := World.ownsRow_lit (base := w.heap.size) (e := 2) (size := 1) w #[] 0 (Nat.le_refl _) (Nat.zero_le _) rfl
  have HC := fun (h : xs ≠ []) => hv1.cells h
  by_cases hx : xs = []
  · subst hx
    clear HC hv hv1
    simp only [List.length_nil]
    rcases a with _ | ad
    · go_enter Tryz.func61, Tryz.ntmps61
      go_wp2_with (at_builtin; refine wpList_append_own_nil rfl _ _ 25 rfl w.heap.size 2 i0 1 _ Tryz.underlying25 hi _ _ _ rfl hown rfl ?_)
      go_wp2
      go_ret
      obtain ⟨bs, h1, h2⟩ := Own.of_owns hown
      exact ⟨_, bs, rfl, ⟨_, h1⟩, h2, (by repeat (first | exact Below.refl _ _ | refine Below.drew ?_ | refine below_drewN ?_ _ | refine Below.setCell ?_ (by first | omega | (simp; done) | (simp; omega)) _ | refine Below.alloc ?_ (by first | omega | (simp; done) | (simp; omega)) _))⟩
    · go_enter Tryz.func61, Tryz.ntmps61
      go_wp2_with (at_builtin; refine wpList_append_own _ rfl _ _ 25 rfl w.heap.size 2 i0 (.int .i64 0) 1 8 Tryz.underlying25 hi hz0 hz1 hz2 rfl (by decide) _ _ _ rfl hown ad 0 _ [] rfl rfl ?c1 ?c2 ?c3 ?c4 ?c5 ?_)
      case c1 => intro j u hu; simp at hu
      case c2 => intro u hu; cases hu
      case c3 => exact Nat.zero_le _
      case c4 => omega
      case c5 => simp
      intro v' w1 hown' hgrow _
      have hb' : Below w.heap.size w w1 := ((Below.refl _ _).alloc (Nat.le_refl _) _).grown hgrow (by simp) (fun k e => (hown.lt k e).1)
      go_wp2
      go_ret
      obtain ⟨bs, h1, h2⟩ := Own.of_owns hown'
      exact ⟨_, bs, rfl, ⟨_, h1⟩, h2, hb'⟩
  · obtain ⟨ad, rfl, hcell⟩ := HC hx
    clear HC hv hv1
    generalize hZ : xs.map (Value.int .i64) = Z at *
    have HZ : Hid (Z = xs.map (Value.int .i64)) := hZ.symm
    have hZl : Z.length = xs.length := by rw [← hZ, List.length_map]
    have hZ1 : ∀ v ∈ Z, v.oneCell' = true := by rw [← hZ]; intro u hu; obtain ⟨y, _, rfl⟩ := List.mem_map.1 hu; rfl
    clear hZ
    go_enter Tryz.func61, Tryz.ntmps61
    go_wp2_with (at_builtin; refine wpList_append_own _ rfl _ _ 25 rfl w.heap.size 2 i0 (.int .i64 0) 1 8 Tryz.underlying25 hi hz0 hz1 hz2 rfl (by decide) _ _ _ rfl hown ad xs.length ca Z rfl ?c0 hcell hZ1 ?c3 ?c4 ?c5 ?_)
    case c0 => rw [hZl]; omega
    case c3 => omega
    case c4 => omega
    case c5 => simp
    intro v' w1 hown' hgrow _
    have hb' : Below w.heap.size w w1 := ((Below.refl _ _).alloc (Nat.le_refl _) _).grown hgrow (by simp) (fun k e => (hown.lt k e).1)
    go_wp2
    go_ret
    obtain ⟨bs, h1, h2⟩ := Own.of_owns hown'
    refine ⟨_, bs, rfl, ?_, h2, hb'⟩
    rw [HZ.out] at h1
    exact ⟨_, by simpa using h1⟩
end Go.Proofs.YtepobckhfodngaoGreat
