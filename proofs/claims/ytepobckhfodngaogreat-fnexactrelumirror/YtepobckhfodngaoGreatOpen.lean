/-
  What the row hands over, read as the plain shapes. Made by types_.py.
-/
import Derived.Test.YtepobckhfodngaoGreatTy
import Derived.Deep.Matrix
import Derived.ChangeArms
namespace Go.Proofs.YtepobckhfodngaoGreat
open Go.ChangeShapes Go.WideShapes Go.ChangeAt Go.RowKit
set_option linter.unusedVariables false
section
variable {H : Type} {enc : TypeId × Value → H} {W : World} {held : Bool} {fuel : Nat} {cs : List Value} {x : DataW H × List MemPlace}
theorem addr_add (b off i : Nat) : (⟨b, off, none⟩ : Addr).add i = ⟨b, off + i, none⟩ := by
  unfold Addr.add
  split
  · subst_vars; rfl
  · rfl
theorem open_int64 (h : DataW.trod enc Tryz.prog W 0 (fun _ => true) held fuel 2 cs = some x) : ∃ n, cs = [.int .i64 n] ∧ (Lit.int .i64 n).wf = true := by
  obtain ⟨n, e, _, k⟩ := DataW.trod_int Tryz.underlying2 h
  exact ⟨n, e, k⟩
theorem open_boolean (h : DataW.trod enc Tryz.prog W 0 (fun _ => true) held fuel 4 cs = some x) : ∃ b, cs = [.bool b] := by
  obtain ⟨b, e, _⟩ := DataW.trod_bool Tryz.underlying4 h
  exact ⟨b, e⟩
theorem open_Int64S (h : DataW.trod enc Tryz.prog W 0 (fun _ => true) held fuel 25 cs = some x) : ∃ v xs, cs = [v] ∧ Reads W .i64 v xs ∧ ∀ n ∈ xs, (Lit.int .i64 n).wf = true := by
  rcases open_ints Tryz.underlying25 Tryz.underlying2 (by kernel_rfl) h with ⟨rfl, _⟩ | ⟨a, l, c, zs, rfl, _, hl, hm, hz, _, hcell, hwz⟩
  · exact ⟨_, [], rfl, Reads.empty _ _ _ _, fun n hn => by cases hn⟩
  · obtain ⟨xs, e, hr, hw⟩ := IsRow.reads (k := .i64) (w := W) (a := some a) (len := l) (cap := c) (zs := zs) (.inr ⟨_, rfl, hl, hm, by simpa using hz, hcell, hwz⟩)
    exact ⟨_, xs, rfl, hr, hw⟩
theorem open_Int64SS (h : DataW.trod enc Tryz.prog W 0 (fun _ => true) held fuel 22 cs = some x) : ∃ v xss, cs = [v] ∧ ReadsM W v xss := by
  rcases Go.Deep.open_int_rows Tryz.underlying22 Tryz.underlying25 Tryz.underlying2 (by kernel_rfl) (by kernel_rfl) h with ⟨rfl, _⟩ | ⟨a, len, cap, A, L, C, Z, rfl, _, hl, hm, _, hr⟩
  · exact ⟨_, [], rfl, ⟨_, _, rfl, Nat.zero_le _, fun h => absurd rfl h⟩⟩
  · refine ⟨_, (List.range len).map (fun r => (Z r).take (L r)), rfl, some a, cap, by simp, by simp; omega, fun hx => ?_⟩
    have h0 : 0 < len := by
      rcases Nat.eq_zero_or_pos len with h | h
      · subst h; simp at hx
      · exact h
    have c0 := (hr 0 (by omega)).1
    obtain ⟨b, off, spot⟩ := a
    have hspot : spot = none := by simpa [Addr.add] using World.cell?_spot c0
    subst hspot
    refine ⟨b, off, rfl, cell_lt c0, fun i hi => ?_⟩
    simp only [List.length_map, List.length_range] at hi
    obtain ⟨e1, e2, e3, e4, e5, e6, e7⟩ := hr i (by omega)
    have hz : ((Z i).take (L i)).length = L i := by simp; omega
    have hg : ((List.range len).map (fun r => (Z r).take (L r))).getD i [] = (Z i).take (L i) := by simp [hi]
    rw [hg]
    refine ⟨A i, C i, by rw [hz]; rw [addr_add] at e1; exact e1, ?_⟩
    obtain ⟨xs, k1, k2, k3⟩ := IsRow.reads (k := .i64) (w := W) (a := A i) (len := L i) (cap := C i) (zs := Z i) (by
      rcases hA : A i with _ | a'
      · have hc0 := e6 hA
        exact .inl ⟨rfl, by omega, hc0, List.eq_nil_of_length_eq_zero (by omega)⟩
      · obtain ⟨_, hcc⟩ := e7 a' hA
        exact .inr ⟨a', rfl, e2, e3, e4, fun j hj => hcc j (by omega), e5⟩)
    have : Reads W .i64 (.slice (A i) (L i) (C i)) ((Z i).take (L i)) := by
      refine ⟨A i, C i, by rw [hz], by omega, fun hne => ?_⟩
      have hl0 : 0 < L i := by rw [← hz]; exact List.length_pos_iff.2 hne
      rcases hA : A i with _ | a'
      · have := e6 hA; omega
      · obtain ⟨_, hcc⟩ := e7 a' hA
        have q0 := hcc 0 (by omega)
        obtain ⟨b', off', spot'⟩ := a'
        have hs' : spot' = none := by simpa [Addr.add] using World.cell?_spot q0
        subst hs'
        refine ⟨b', off', rfl, cell_lt q0, fun j hj => ?_⟩
        have := hcc j (by omega)
        rw [addr_add] at this
        rw [this]
        rw [hz] at hj
        simp [List.getD_eq_getElem?_getD, hj]
    rw [hz]
    exact this
set_option maxRecDepth 100000 in
theorem open_Tape (h : DataW.trod enc Tryz.prog W 0 (fun _ => true) held fuel 24 cs = some x) : ∃ y : List (List Int), RdTape W (.agg cs.toArray) y := by
  obtain ⟨xs, n, _, _, hl, hlen, hf⟩ := DataW.trod_struct Tryz.underlying24 h
  rw [show Tryz.prog.cellsOf 24 = 1 from by kernel_rfl] at hl
  obtain ⟨k0, rfl⟩ : ∃ k0, cs = [k0] := by
    match cs, hl with
    | [k0], _ => exact ⟨k0, rfl⟩
  obtain ⟨y0, rfl⟩ : ∃ y0, xs = [y0] := by
    match xs, hlen with
    | [y0], _ => exact ⟨y0, rfl⟩
  have z0 : DataW.trod enc Tryz.prog W 0 (fun _ => true) held n 22 [k0] = some y0 := by
    have hz : DataW.trod enc Tryz.prog W 0 (fun _ => true) held n 22 (List.take (Tryz.prog.cellsOf 22) (List.drop 0 [k0])) = [y0][0]? := hf 0 _ rfl
    rw [show Tryz.prog.cellsOf 22 = 1 from by kernel_rfl] at hz
    exact hz
  obtain ⟨u0, v0, g0, q0⟩ := open_Int64SS z0
  obtain rfl : k0 = _ := by simpa using g0
  obtain ⟨p0, c0, e0⟩ := ReadsM.shp q0
  subst e0
  exact ⟨v0, p0, c0, rfl, q0⟩
set_option maxRecDepth 100000 in
theorem open_Mirror (h : DataW.trod enc Tryz.prog W 0 (fun _ => true) held fuel 33 cs = some x) : ∃ y : MMirror, RdMirror W (.agg cs.toArray) y := by
  obtain ⟨xs, n, _, _, hl, hlen, hf⟩ := DataW.trod_struct Tryz.underlying33 h
  rw [show Tryz.prog.cellsOf 33 = 2 from by kernel_rfl] at hl
  obtain ⟨k0, k1, rfl⟩ : ∃ k0 k1, cs = [k0, k1] := by
    match cs, hl with
    | [k0, k1], _ => exact ⟨k0, k1, rfl⟩
  obtain ⟨y0, y1, rfl⟩ : ∃ y0 y1, xs = [y0, y1] := by
    match xs, hlen with
    | [y0, y1], _ => exact ⟨y0, y1, rfl⟩
  have z0 : DataW.trod enc Tryz.prog W 0 (fun _ => true) held n 2 [k0] = some y0 := by
    have hz : DataW.trod enc Tryz.prog W 0 (fun _ => true) held n 2 (List.take (Tryz.prog.cellsOf 2) (List.drop 0 [k0, k1])) = [y0, y1][0]? := hf 0 _ rfl
    rw [show Tryz.prog.cellsOf 2 = 1 from by kernel_rfl] at hz
    exact hz
  have z1 : DataW.trod enc Tryz.prog W 0 (fun _ => true) held n 22 [k1] = some y1 := by
    have hz : DataW.trod enc Tryz.prog W 0 (fun _ => true) held n 22 (List.take (Tryz.prog.cellsOf 22) (List.drop 1 [k0, k1])) = [y0, y1][1]? := hf 1 _ rfl
    rw [show Tryz.prog.cellsOf 22 = 1 from by kernel_rfl] at hz
    exact hz
  obtain ⟨v0, g0, _⟩ := open_int64 z0
  obtain rfl : k0 = _ := by simpa using g0
  obtain ⟨u1, v1, g1, q1⟩ := open_Int64SS z1
  obtain rfl : k1 = _ := by simpa using g1
  obtain ⟨p0, c0, e1⟩ := ReadsM.shp q1
  subst e1
  exact ⟨⟨v0, v1⟩, p0, c0, rfl, q1⟩
set_option maxRecDepth 100000 in
theorem open_Cheat (h : DataW.trod enc Tryz.prog W 0 (fun _ => true) held fuel 27 cs = some x) : ∃ y : MCheat, RdCheat W (.agg cs.toArray) y := by
  obtain ⟨xs, n, _, _, hl, hlen, hf⟩ := DataW.trod_struct Tryz.underlying27 h
  rw [show Tryz.prog.cellsOf 27 = 4 from by kernel_rfl] at hl
  obtain ⟨k0, k1, k2, k3, rfl⟩ : ∃ k0 k1 k2 k3, cs = [k0, k1, k2, k3] := by
    match cs, hl with
    | [k0, k1, k2, k3], _ => exact ⟨k0, k1, k2, k3, rfl⟩
  obtain ⟨y0, y1, y2, y3, rfl⟩ : ∃ y0 y1 y2 y3, xs = [y0, y1, y2, y3] := by
    match xs, hlen with
    | [y0, y1, y2, y3], _ => exact ⟨y0, y1, y2, y3, rfl⟩
  have z0 : DataW.trod enc Tryz.prog W 0 (fun _ => true) held n 2 [k0] = some y0 := by
    have hz : DataW.trod enc Tryz.prog W 0 (fun _ => true) held n 2 (List.take (Tryz.prog.cellsOf 2) (List.drop 0 [k0, k1, k2, k3])) = [y0, y1, y2, y3][0]? := hf 0 _ rfl
    rw [show Tryz.prog.cellsOf 2 = 1 from by kernel_rfl] at hz
    exact hz
  have z1 : DataW.trod enc Tryz.prog W 0 (fun _ => true) held n 2 [k1] = some y1 := by
    have hz : DataW.trod enc Tryz.prog W 0 (fun _ => true) held n 2 (List.take (Tryz.prog.cellsOf 2) (List.drop 1 [k0, k1, k2, k3])) = [y0, y1, y2, y3][1]? := hf 1 _ rfl
    rw [show Tryz.prog.cellsOf 2 = 1 from by kernel_rfl] at hz
    exact hz
  have z2 : DataW.trod enc Tryz.prog W 0 (fun _ => true) held n 2 [k2] = some y2 := by
    have hz : DataW.trod enc Tryz.prog W 0 (fun _ => true) held n 2 (List.take (Tryz.prog.cellsOf 2) (List.drop 2 [k0, k1, k2, k3])) = [y0, y1, y2, y3][2]? := hf 2 _ rfl
    rw [show Tryz.prog.cellsOf 2 = 1 from by kernel_rfl] at hz
    exact hz
  have z3 : DataW.trod enc Tryz.prog W 0 (fun _ => true) held n 4 [k3] = some y3 := by
    have hz : DataW.trod enc Tryz.prog W 0 (fun _ => true) held n 4 (List.take (Tryz.prog.cellsOf 4) (List.drop 3 [k0, k1, k2, k3])) = [y0, y1, y2, y3][3]? := hf 3 _ rfl
    rw [show Tryz.prog.cellsOf 4 = 1 from by kernel_rfl] at hz
    exact hz
  obtain ⟨v0, g0, _⟩ := open_int64 z0
  obtain rfl : k0 = _ := by simpa using g0
  obtain ⟨v1, g1, _⟩ := open_int64 z1
  obtain rfl : k1 = _ := by simpa using g1
  obtain ⟨v2, g2, _⟩ := open_int64 z2
  obtain rfl : k2 = _ := by simpa using g2
  obtain ⟨v3, g3⟩ := open_boolean z3
  obtain rfl : k3 = _ := by simpa using g3
  exact ⟨⟨v0, v1, v2, v3⟩, rfl⟩
set_option maxRecDepth 100000 in
theorem open_Quarrel (h : DataW.trod enc Tryz.prog W 0 (fun _ => true) held fuel 29 cs = some x) : ∃ y : MQuarrel, RdQuarrel W (.agg cs.toArray) y := by
  obtain ⟨xs, n, _, _, hl, hlen, hf⟩ := DataW.trod_struct Tryz.underlying29 h
  rw [show Tryz.prog.cellsOf 29 = 8 from by kernel_rfl] at hl
  obtain ⟨k0, k1, k2, k3, k4, k5, k6, k7, rfl⟩ : ∃ k0 k1 k2 k3 k4 k5 k6 k7, cs = [k0, k1, k2, k3, k4, k5, k6, k7] := by
    match cs, hl with
    | [k0, k1, k2, k3, k4, k5, k6, k7], _ => exact ⟨k0, k1, k2, k3, k4, k5, k6, k7, rfl⟩
  obtain ⟨y0, y1, y2, y3, y4, y5, y6, y7, rfl⟩ : ∃ y0 y1 y2 y3 y4 y5 y6 y7, xs = [y0, y1, y2, y3, y4, y5, y6, y7] := by
    match xs, hlen with
    | [y0, y1, y2, y3, y4, y5, y6, y7], _ => exact ⟨y0, y1, y2, y3, y4, y5, y6, y7, rfl⟩
  have z0 : DataW.trod enc Tryz.prog W 0 (fun _ => true) held n 4 [k0] = some y0 := by
    have hz : DataW.trod enc Tryz.prog W 0 (fun _ => true) held n 4 (List.take (Tryz.prog.cellsOf 4) (List.drop 0 [k0, k1, k2, k3, k4, k5, k6, k7])) = [y0, y1, y2, y3, y4, y5, y6, y7][0]? := hf 0 _ rfl
    rw [show Tryz.prog.cellsOf 4 = 1 from by kernel_rfl] at hz
    exact hz
  have z1 : DataW.trod enc Tryz.prog W 0 (fun _ => true) held n 2 [k1] = some y1 := by
    have hz : DataW.trod enc Tryz.prog W 0 (fun _ => true) held n 2 (List.take (Tryz.prog.cellsOf 2) (List.drop 1 [k0, k1, k2, k3, k4, k5, k6, k7])) = [y0, y1, y2, y3, y4, y5, y6, y7][1]? := hf 1 _ rfl
    rw [show Tryz.prog.cellsOf 2 = 1 from by kernel_rfl] at hz
    exact hz
  have z2 : DataW.trod enc Tryz.prog W 0 (fun _ => true) held n 2 [k2] = some y2 := by
    have hz : DataW.trod enc Tryz.prog W 0 (fun _ => true) held n 2 (List.take (Tryz.prog.cellsOf 2) (List.drop 2 [k0, k1, k2, k3, k4, k5, k6, k7])) = [y0, y1, y2, y3, y4, y5, y6, y7][2]? := hf 2 _ rfl
    rw [show Tryz.prog.cellsOf 2 = 1 from by kernel_rfl] at hz
    exact hz
  have z3 : DataW.trod enc Tryz.prog W 0 (fun _ => true) held n 2 [k3] = some y3 := by
    have hz : DataW.trod enc Tryz.prog W 0 (fun _ => true) held n 2 (List.take (Tryz.prog.cellsOf 2) (List.drop 3 [k0, k1, k2, k3, k4, k5, k6, k7])) = [y0, y1, y2, y3, y4, y5, y6, y7][3]? := hf 3 _ rfl
    rw [show Tryz.prog.cellsOf 2 = 1 from by kernel_rfl] at hz
    exact hz
  have z4 : DataW.trod enc Tryz.prog W 0 (fun _ => true) held n 2 [k4] = some y4 := by
    have hz : DataW.trod enc Tryz.prog W 0 (fun _ => true) held n 2 (List.take (Tryz.prog.cellsOf 2) (List.drop 4 [k0, k1, k2, k3, k4, k5, k6, k7])) = [y0, y1, y2, y3, y4, y5, y6, y7][4]? := hf 4 _ rfl
    rw [show Tryz.prog.cellsOf 2 = 1 from by kernel_rfl] at hz
    exact hz
  have z5 : DataW.trod enc Tryz.prog W 0 (fun _ => true) held n 2 [k5] = some y5 := by
    have hz : DataW.trod enc Tryz.prog W 0 (fun _ => true) held n 2 (List.take (Tryz.prog.cellsOf 2) (List.drop 5 [k0, k1, k2, k3, k4, k5, k6, k7])) = [y0, y1, y2, y3, y4, y5, y6, y7][5]? := hf 5 _ rfl
    rw [show Tryz.prog.cellsOf 2 = 1 from by kernel_rfl] at hz
    exact hz
  have z6 : DataW.trod enc Tryz.prog W 0 (fun _ => true) held n 2 [k6] = some y6 := by
    have hz : DataW.trod enc Tryz.prog W 0 (fun _ => true) held n 2 (List.take (Tryz.prog.cellsOf 2) (List.drop 6 [k0, k1, k2, k3, k4, k5, k6, k7])) = [y0, y1, y2, y3, y4, y5, y6, y7][6]? := hf 6 _ rfl
    rw [show Tryz.prog.cellsOf 2 = 1 from by kernel_rfl] at hz
    exact hz
  have z7 : DataW.trod enc Tryz.prog W 0 (fun _ => true) held n 2 [k7] = some y7 := by
    have hz : DataW.trod enc Tryz.prog W 0 (fun _ => true) held n 2 (List.take (Tryz.prog.cellsOf 2) (List.drop 7 [k0, k1, k2, k3, k4, k5, k6, k7])) = [y0, y1, y2, y3, y4, y5, y6, y7][7]? := hf 7 _ rfl
    rw [show Tryz.prog.cellsOf 2 = 1 from by kernel_rfl] at hz
    exact hz
  obtain ⟨v0, g0⟩ := open_boolean z0
  obtain rfl : k0 = _ := by simpa using g0
  obtain ⟨v1, g1, _⟩ := open_int64 z1
  obtain rfl : k1 = _ := by simpa using g1
  obtain ⟨v2, g2, _⟩ := open_int64 z2
  obtain rfl : k2 = _ := by simpa using g2
  obtain ⟨v3, g3, _⟩ := open_int64 z3
  obtain rfl : k3 = _ := by simpa using g3
  obtain ⟨v4, g4, _⟩ := open_int64 z4
  obtain rfl : k4 = _ := by simpa using g4
  obtain ⟨v5, g5, _⟩ := open_int64 z5
  obtain rfl : k5 = _ := by simpa using g5
  obtain ⟨v6, g6, _⟩ := open_int64 z6
  obtain rfl : k6 = _ := by simpa using g6
  obtain ⟨v7, g7, _⟩ := open_int64 z7
  obtain rfl : k7 = _ := by simpa using g7
  exact ⟨⟨v0, v1, v2, v3, v4, v5, v6, v7⟩, rfl⟩
set_option maxRecDepth 100000 in
theorem open_Net (h : DataW.trod enc Tryz.prog W 0 (fun _ => true) held fuel 31 cs = some x) : ∃ y : MNet, RdNet W (.agg cs.toArray) y := by
  obtain ⟨xs, n, _, _, hl, hlen, hf⟩ := DataW.trod_struct Tryz.underlying31 h
  rw [show Tryz.prog.cellsOf 31 = 16 from by kernel_rfl] at hl
  obtain ⟨k0, k1, k2, k3, k4, k5, k6, k7, k8, k9, k10, k11, k12, k13, k14, k15, rfl⟩ : ∃ k0 k1 k2 k3 k4 k5 k6 k7 k8 k9 k10 k11 k12 k13 k14 k15, cs = [k0, k1, k2, k3, k4, k5, k6, k7, k8, k9, k10, k11, k12, k13, k14, k15] := by
    match cs, hl with
    | [k0, k1, k2, k3, k4, k5, k6, k7, k8, k9, k10, k11, k12, k13, k14, k15], _ => exact ⟨k0, k1, k2, k3, k4, k5, k6, k7, k8, k9, k10, k11, k12, k13, k14, k15, rfl⟩
  obtain ⟨y0, y1, y2, y3, y4, y5, rfl⟩ : ∃ y0 y1 y2 y3 y4 y5, xs = [y0, y1, y2, y3, y4, y5] := by
    match xs, hlen with
    | [y0, y1, y2, y3, y4, y5], _ => exact ⟨y0, y1, y2, y3, y4, y5, rfl⟩
  have z0 : DataW.trod enc Tryz.prog W 0 (fun _ => true) held n 24 [k0] = some y0 := by
    have hz : DataW.trod enc Tryz.prog W 0 (fun _ => true) held n 24 (List.take (Tryz.prog.cellsOf 24) (List.drop 0 [k0, k1, k2, k3, k4, k5, k6, k7, k8, k9, k10, k11, k12, k13, k14, k15])) = [y0, y1, y2, y3, y4, y5][0]? := hf 0 _ rfl
    rw [show Tryz.prog.cellsOf 24 = 1 from by kernel_rfl] at hz
    exact hz
  have z1 : DataW.trod enc Tryz.prog W 0 (fun _ => true) held n 25 [k1] = some y1 := by
    have hz : DataW.trod enc Tryz.prog W 0 (fun _ => true) held n 25 (List.take (Tryz.prog.cellsOf 25) (List.drop 1 [k0, k1, k2, k3, k4, k5, k6, k7, k8, k9, k10, k11, k12, k13, k14, k15])) = [y0, y1, y2, y3, y4, y5][1]? := hf 1 _ rfl
    rw [show Tryz.prog.cellsOf 25 = 1 from by kernel_rfl] at hz
    exact hz
  have z2 : DataW.trod enc Tryz.prog W 0 (fun _ => true) held n 2 [k2] = some y2 := by
    have hz : DataW.trod enc Tryz.prog W 0 (fun _ => true) held n 2 (List.take (Tryz.prog.cellsOf 2) (List.drop 2 [k0, k1, k2, k3, k4, k5, k6, k7, k8, k9, k10, k11, k12, k13, k14, k15])) = [y0, y1, y2, y3, y4, y5][2]? := hf 2 _ rfl
    rw [show Tryz.prog.cellsOf 2 = 1 from by kernel_rfl] at hz
    exact hz
  have z3 : DataW.trod enc Tryz.prog W 0 (fun _ => true) held n 22 [k3] = some y3 := by
    have hz : DataW.trod enc Tryz.prog W 0 (fun _ => true) held n 22 (List.take (Tryz.prog.cellsOf 22) (List.drop 3 [k0, k1, k2, k3, k4, k5, k6, k7, k8, k9, k10, k11, k12, k13, k14, k15])) = [y0, y1, y2, y3, y4, y5][3]? := hf 3 _ rfl
    rw [show Tryz.prog.cellsOf 22 = 1 from by kernel_rfl] at hz
    exact hz
  have z4 : DataW.trod enc Tryz.prog W 0 (fun _ => true) held n 27 [k4, k5, k6, k7] = some y4 := by
    have hz : DataW.trod enc Tryz.prog W 0 (fun _ => true) held n 27 (List.take (Tryz.prog.cellsOf 27) (List.drop 4 [k0, k1, k2, k3, k4, k5, k6, k7, k8, k9, k10, k11, k12, k13, k14, k15])) = [y0, y1, y2, y3, y4, y5][4]? := hf 4 _ rfl
    rw [show Tryz.prog.cellsOf 27 = 4 from by kernel_rfl] at hz
    exact hz
  have z5 : DataW.trod enc Tryz.prog W 0 (fun _ => true) held n 29 [k8, k9, k10, k11, k12, k13, k14, k15] = some y5 := by
    have hz : DataW.trod enc Tryz.prog W 0 (fun _ => true) held n 29 (List.take (Tryz.prog.cellsOf 29) (List.drop 8 [k0, k1, k2, k3, k4, k5, k6, k7, k8, k9, k10, k11, k12, k13, k14, k15])) = [y0, y1, y2, y3, y4, y5][5]? := hf 5 _ rfl
    rw [show Tryz.prog.cellsOf 29 = 8 from by kernel_rfl] at hz
    exact hz
  obtain ⟨v0, q0⟩ := open_Tape z0
  obtain ⟨p0, c0, e0, q0_0⟩ := q0
  simp at e0
  subst e0
  obtain ⟨u1, v1, g1, q1, _⟩ := open_Int64S z1
  obtain rfl : k1 = _ := by simpa using g1
  obtain ⟨p1, c1, e1⟩ := Reads.shp q1
  subst e1
  obtain ⟨v2, g2, _⟩ := open_int64 z2
  obtain rfl : k2 = _ := by simpa using g2
  obtain ⟨u3, v3, g3, q3⟩ := open_Int64SS z3
  obtain rfl : k3 = _ := by simpa using g3
  obtain ⟨p2, c2, e3⟩ := ReadsM.shp q3
  subst e3
  obtain ⟨v4, q4⟩ := open_Cheat z4
  have e4 := q4
  unfold RdCheat at e4
  simp at e4
  obtain ⟨rfl, rfl, rfl, rfl⟩ := e4
  obtain ⟨v5, q5⟩ := open_Quarrel z5
  have e5 := q5
  unfold RdQuarrel at e5
  simp at e5
  obtain ⟨rfl, rfl, rfl, rfl, rfl, rfl, rfl, rfl⟩ := e5
  exact ⟨⟨v0, v1, v2, v3, v4, v5⟩, p0, c0, p1, c1, p2, c2, rfl, q0_0, q1, q3⟩
end
end Go.Proofs.YtepobckhfodngaoGreat

