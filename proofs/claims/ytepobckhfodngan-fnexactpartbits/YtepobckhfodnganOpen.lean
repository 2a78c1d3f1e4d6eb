/-
  What the row hands over, read as the plain shapes. Made by types_.py.
-/
import Derived.Test.YtepobckhfodnganTy
import Derived.Deep.Matrix
import Derived.ChangeArms
namespace Go.Proofs.Ytepobckhfodngan
open Go.ChangeShapes Go.WideShapes Go.ChangeAt Go.RowKit
set_option linter.unusedVariables false
section
variable {H : Type} {enc : TypeId × Value → H} {W : World} {held : Bool} {fuel : Nat} {cs : List Value} {x : DataW H × List MemPlace}
theorem addr_add (b off i : Nat) : (⟨b, off, none⟩ : Addr).add i = ⟨b, off + i, none⟩ := by
  unfold Addr.add
  split
  · subst_vars; rfl
  · rfl
theorem open_int64 (h : DataW.trod enc Try.prog W 0 (fun _ => true) held fuel 2 cs = some x) : ∃ n, cs = [.int .i64 n] ∧ (Lit.int .i64 n).wf = true := by
  obtain ⟨n, e, _, k⟩ := DataW.trod_int Try.underlying2 h
  exact ⟨n, e, k⟩
theorem open_boolean (h : DataW.trod enc Try.prog W 0 (fun _ => true) held fuel 4 cs = some x) : ∃ b, cs = [.bool b] := by
  obtain ⟨b, e, _⟩ := DataW.trod_bool Try.underlying4 h
  exact ⟨b, e⟩
theorem open_Int64S (h : DataW.trod enc Try.prog W 0 (fun _ => true) held fuel 71 cs = some x) : ∃ v xs, cs = [v] ∧ Reads W .i64 v xs ∧ ∀ n ∈ xs, (Lit.int .i64 n).wf = true := by
  rcases open_ints Try.underlying71 Try.underlying2 (by kernel_rfl) h with ⟨rfl, _⟩ | ⟨a, l, c, zs, rfl, _, hl, hm, hz, _, hcell, hwz⟩
  · exact ⟨_, [], rfl, Reads.empty _ _ _ _, fun n hn => by cases hn⟩
  · obtain ⟨xs, e, hr, hw⟩ := IsRow.reads (k := .i64) (w := W) (a := some a) (len := l) (cap := c) (zs := zs) (.inr ⟨_, rfl, hl, hm, by simpa using hz, hcell, hwz⟩)
    exact ⟨_, xs, rfl, hr, hw⟩
theorem open_Int64SS (h : DataW.trod enc Try.prog W 0 (fun _ => true) held fuel 22 cs = some x) : ∃ v xss, cs = [v] ∧ ReadsM W v xss := by
  rcases Go.Deep.open_int_rows Try.underlying22 Try.underlying71 Try.underlying2 (by kernel_rfl) (by kernel_rfl) h with ⟨rfl, _⟩ | ⟨a, len, cap, A, L, C, Z, rfl, _, hl, hm, _, hr⟩
  · exact ⟨_, [], rfl, ⟨_, _, rfl, Nat.zero_le _, fun h => absurd rfl h⟩⟩
  · refine ⟨_, (List.range len).map (fun r => (Z r).take (L r)), rfl, some a, cap, by simp, by simp; omega, fun hx => ?_⟩
    have h0 : 0 < len := by
      rcases Nat.eq_zero_or_pos len with h | h
      · subst h; simp at hx
      · exact h
    have c0 := (hr 0 (by omega)).1
    obtain ⟨b, off, spot⟩ := a
    have hspot : spot = none := by simpa [Addr.add] using World.cell?_spot c0
    subst hspot
    refine ⟨b, off, rfl, cell_lt c0, fun i hi => ?_⟩
    simp only [List.length_map, List.length_range] at hi
    obtain ⟨e1, e2, e3, e4, e5, e6, e7⟩ := hr i (by omega)
    have hz : ((Z i).take (L i)).length = L i := by simp; omega
    have hg : ((List.range len).map (fun r => (Z r).take (L r))).getD i [] = (Z i).take (L i) := by simp [hi]
    rw [hg]
    refine ⟨A i, C i, by rw [hz]; rw [addr_add] at e1; exact e1, ?_⟩
    obtain ⟨xs, k1, k2, k3⟩ := IsRow.reads (k := .i64) (w := W) (a := A i) (len := L i) (cap := C i) (zs := Z i) (by
      rcases hA : A i with _ | a'
      · have hc0 := e6 hA
        exact .inl ⟨rfl, by omega, hc0, List.eq_nil_of_length_eq_zero (by omega)⟩
      · obtain ⟨_, hcc⟩ := e7 a' hA
        exact .inr ⟨a', rfl, e2, e3, e4, fun j hj => hcc j (by omega), e5⟩)
    have : Reads W .i64 (.slice (A i) (L i) (C i)) ((Z i).take (L i)) := by
      refine ⟨A i, C i, by rw [hz], by omega, fun hne => ?_⟩
      have hl0 : 0 < L i := by rw [← hz]; exact List.length_pos_iff.2 hne
      rcases hA : A i with _ | a'
      · have := e6 hA; omega
      · obtain ⟨_, hcc⟩ := e7 a' hA
        have q0 := hcc 0 (by omega)
        obtain ⟨b', off', spot'⟩ := a'
        have hs' : spot' = none := by simpa [Addr.add] using World.cell?_spot q0
        subst hs'
        refine ⟨b', off', rfl, cell_lt q0, fun j hj => ?_⟩
        have := hcc j (by omega)
        rw [addr_add] at this
        rw [this]
        rw [hz] at hj
        simp [List.getD_eq_getElem?_getD, hj]
    rw [hz]
    exact this
set_option maxRecDepth 100000 in
theorem open_Mirror (h : DataW.trod enc Try.prog W 0 (fun _ => true) held fuel 24 cs = some x) : ∃ y : MMirror, RdMirror W (.agg cs.toArray) y := by
  obtain ⟨xs, n, _, _, hl, hlen, hf⟩ := DataW.trod_struct Try.underlying24 h
  rw [show Try.prog.cellsOf 24 = 2 from by kernel_rfl] at hl
  obtain ⟨k0, k1, rfl⟩ : ∃ k0 k1, cs = [k0, k1] := by
    match cs, hl with
    | [k0, k1], _ => exact ⟨k0, k1, rfl⟩
  obtain ⟨y0, y1, rfl⟩ : ∃ y0 y1, xs = [y0, y1] := by
    match xs, hlen with
    | [y0, y1], _ => exact ⟨y0, y1, rfl⟩
  have z0 : DataW.trod enc Try.prog W 0 (fun _ => true) held n 2 [k0] = some y0 := by
    have hz : DataW.trod enc Try.prog W 0 (fun _ => true) held n 2 (List.take (Try.prog.cellsOf 2) (List.drop 0 [k0, k1])) = [y0, y1][0]? := hf 0 _ rfl
    rw [show Try.prog.cellsOf 2 = 1 from by kernel_rfl] at hz
    exact hz
  have z1 : DataW.trod enc Try.prog W 0 (fun _ => true) held n 22 [k1] = some y1 := by
    have hz : DataW.trod enc Try.prog W 0 (fun _ => true) held n 22 (List.take (Try.prog.cellsOf 22) (List.drop 1 [k0, k1])) = [y0, y1][1]? := hf 1 _ rfl
    rw [show Try.prog.cellsOf 22 = 1 from by kernel_rfl] at hz
    exact hz
  obtain ⟨v0, g0, _⟩ := open_int64 z0
  obtain rfl : k0 = _ := by simpa using g0
  obtain ⟨u1, v1, g1, q1⟩ := open_Int64SS z1
  obtain rfl : k1 = _ := by simpa using g1
  obtain ⟨p0, c0, e1⟩ := ReadsM.shp q1
  subst e1
  exact ⟨⟨v0, v1⟩, p0, c0, rfl, q1⟩
end
end Go.Proofs.Ytepobckhfodngan

