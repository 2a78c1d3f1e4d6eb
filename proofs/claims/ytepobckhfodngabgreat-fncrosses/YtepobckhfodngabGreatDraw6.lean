/-
  Draws of chapter 4: a net, perhaps with a fault.
-/
import Derived.Test.YtepobckhfodngabGreatDraw5
namespace Go.Proofs.YtepobckhfodngabGreat
open Go.ChangeShapes Go.WideShapes Go.ChangeAt Go.RowKit
set_option linter.unusedVariables false

/-- row i of a list of lists, replaced: what is read then -/
theorem Mat.put {w : World} {v : Value} {xss : List (List Int)} {bs : List Nat} (h : Mat w v xss bs) (i : Nat) (hi : i < xss.length) :
    ∃ g c u0, v = .slice (some ⟨g, 0, none⟩) xss.length c ∧ w.cell? ⟨g, i, none⟩ = some u0 ∧ w.frozen? ⟨g, i, none⟩ = false ∧ g ∈ bs ∧
      ∀ (W1 W : World) (cs1 cs : List Nat) (u : Value) (ys : List Int), Off cs1 w W1 → (∀ y ∈ bs, y ∉ cs1) → Off cs (W1.setCell ⟨g, i, none⟩ u) W → (∀ y ∈ bs, y ∉ cs) → Reads W .i64 u ys → ReadsM W v (xss.set i ys) := by
  have hlt := h.lt
  obtain ⟨vs, bo, bi, hO, hR, rfl, hd⟩ := h
  obtain ⟨g, c, rfl, rfl, _, _⟩ := Own.shape hO (by omega)
  have hm := Own.le hO
  have hg0 : g < w.heap.size := Own.lt hO g (by simp)
  obtain ⟨u0, b0, hu0, _, _⟩ := hR.get i hi
  have c0 : w.cell? ⟨g, i, none⟩ = some u0 := (Own.cell hO i (by omega)).trans hu0
  refine ⟨g, c, u0, rfl, c0, Own.frozen hO i, by simp, fun W1 W cs1 cs u ys o1 h1 oW hcs hu => ?_⟩
  have hg1 : g < W1.heap.size := Nat.lt_of_lt_of_le hg0 o1.size
  have hO1 := Own.off hO o1 (fun y hy => h1 y (by simp at hy; subst hy; simp))
  have c1 : W1.cell? ⟨g, i, none⟩ = some u0 := (Own.cell hO1 i (by omega)).trans hu0
  have hO' : Off [g] W1 (W1.setCell ⟨g, i, none⟩ u) := (Off.refl _ _).setCell _ _ (by simp)
  have sz : (W1.setCell ⟨g, i, none⟩ u).heap.size = W1.heap.size := by simp [World.setCell]
  have gW := (oW.at g (by rw [sz]; exact hg1) (hcs g (by simp))).1
  have zW : W1.heap.size ≤ W.heap.size := by have := oW.size; rw [sz] at this; exact this
  refine ⟨some ⟨g, 0, none⟩, c, by simp, by simp; exact hm, fun _ => ⟨g, 0, rfl, by omega, fun k hk => ?_⟩⟩
  rw [List.length_set] at hk
  rw [gW, Nat.zero_add]
  by_cases e : i = k
  · subst e
    have e2 : (xss.set i ys).getD i [] = ys := by simp [hi]
    rw [e2]
    obtain ⟨p, cc, rfl⟩ := hu.shp
    exact ⟨p, cc, World.cell?_setCell_same _ _ _ c1, hu⟩
  · have e2 : (xss.set i ys).getD k [] = xss.getD k [] := by simp [List.getD_eq_getElem?_getD, List.getElem?_set_ne e]
    rw [e2]
    obtain ⟨u2, b, hu2, hb, hI⟩ := hR.get k hk
    obtain ⟨p, cc, rfl⟩ := hI.value
    refine ⟨p, cc, ?_, (((hI.off o1 (fun y hy => h1 y (by simp; exact .inr (by simpa using mem_flat hb hy)))).off hO' (fun y hy hm => (List.nodup_append.1 hd).2.2 g (by simp) y (mem_flat hb hy) (by simp at hm; exact hm.symm))).off oW (fun y hy => hcs y (by simp; exact .inr (by simpa using mem_flat hb hy)))).reads⟩
    rw [World.cell?_setCell_other _ _ _ _ (by intro h; simp at h; try exact e h), Own.cell hO1 k (by omega)]
    exact hu2
theorem wpList_store_end {P : Program} {ops : Array Oper} {rest : List Oper} {op : Oper} {a : Act} {w : World} {Q : Exit → Act → World → Prop} (hgd : op.guard = none) (T : TypeId) (x y : Operand) (ho : op.op = .store T x y)
    (b o : Nat) (cs : Array Value) (hx : a.eval x = .pointer (some ⟨b, o, none⟩)) (hy : a.eval y = .agg cs) {cs0 : Array Value} {T' : TypeId} (h : Blk w b T' cs0) (hs : cs0.size = o + cs.size)
    (hi : (P.info? T).map (·.size) = some cs.size) (h1 : cs.all (·.oneCell') = true)
    (k : ∀ w', Blk w' b T' (cs0.toList.take o ++ cs.toList).toArray → Off [b] w w' → wpList P ops Q rest (a.put op.dst undef) w') : wpList P ops Q (op :: rest) a w :=
  wpList_store_mid hgd T x y ho b o cs hx hy (fun j hj => ⟨by rw [h.at.1]; simp; omega, h.at.2 _⟩) hi h1 (k _ (Blk.setCells cs.toList o w cs0 h (by simpa using hs)) (Off.setCells _ _ _))
theorem ints_drop1 {w : World} {te : TypeId} {g c : Nat} {xs : List Int} (h : Own w te 1 (.slice (some ⟨g, 0, none⟩) 4 c) 4 (xs.map (Value.int .i64)) [g]) (h4 : xs.length = 4) : Reads w .i64 (.slice (some ⟨g, 1, none⟩) 3 (c - 1)) (xs.drop 1) := by
  refine ⟨_, c - 1, by simp [h4], by simp [maxLen, h4], fun _ => ⟨g, 1, rfl, Own.lt h g (by simp), fun i hi => ?_⟩⟩
  have hi' : i + 1 < xs.length := by simp at hi; omega
  rw [Own.cell h (1 + i) (by omega), Nat.add_comm 1 i]
  simp [hi']
theorem tot_901 {xs : List (List Int)} (h : TapeB xs) : tot xs ≤ 1048576 := by
  have h1 : ∀ ys : List (List Int), (∀ j, (ys.getD j []).length ≤ 901) → sl ys ≤ 901 * ys.length := by
    intro ys
    induction ys with
    | nil => intro _; simp [sl]
    | cons x r ih =>
      intro h
      have h0 : x.length ≤ 901 := by simpa using h 0
      have h1 := ih (fun j => by simpa using h (j + 1))
      simp only [sl, List.length_cons]
      omega
  have := h1 xs h.2
  have : 901 * xs.length ≤ 901 * 4 := Nat.mul_le_mul_left _ h.1
  rw [tot_eq]
  have := h.1
  omega
theorem TapeD.b {xs : List (List Int)} (h : TapeD xs) : TapeB xs := ⟨by rw [h.1]; omega, fun j => by have := h.2.1 j; omega⟩
theorem four_rows (k : Nat) : (([[], [], [], []] : List (List Int)).getD k []).length ≤ 16777216 := by (rcases k with _ | _ | _ | _ | k) <;> simp
theorem fitN {xs : List (List Int)} {us : List Int} {hs : List (List Int)} {c : MCheat} {s : Int} {z : MQuarrel} (h : TapeB xs) (hu : us.length ≤ 4) (hh : hs.length ≤ 4) (hr : ∀ k, (hs.getD k []).length ≤ 16777216) : Fit ⟨xs, us, s, hs, c, z⟩ :=
  ⟨tot_901 h, by show us.length ≤ _; omega, by show hs.length ≤ _; omega, hr⟩
def BentN (w0 : World) (b : Nat) (a : Option Addr) (cap : Nat) (zs : List Int) (k : Nat) (u : Value) (w' : World) : Prop := ∃ x : MNet, (∀ W cs, Off cs w' W → (∀ z ∈ cs, z < w0.heap.size) → RdNet W u x) ∧ Fit x ∧ (∃ j, j ≤ 40 ∧ Src w' b a cap zs (k + j)) ∧ Off [b] w0 w'
set_option maxHeartbeats 16000000 in
set_option maxRecDepth 100000 in
theorem spec_l4Bent (b : Nat) (a : Option Addr) (cap : Nat) (zs : List Int) (k : Nat) (w : World) (hs : Src w b a cap zs k) (hk : k ≤ 800000000) :
    Calls Tryz.prog 27 #[.pointer (some ⟨b, 0, none⟩)] w fun e w' => ∃ u, e = .returned u ∧ BentN w b a cap zs k u w' := by
  have hbl := hs.blk.lt
  have Y0 := Blk.new w 33 #[.slice none 0 0, .slice none 0 0, .int .i64 0, .slice none 0 0, .int .i64 0, .int .i64 0, .int .i64 0, .bool false, .bool false, .int .i64 0, .int .i64 0, .int .i64 0, .int .i64 0, .int .i64 0, .int .i64 0, .int .i64 0]
  have nb : w.heap.size ∉ [b] := fun hm => by simp at hm; omega
  have S0 := hs.alloc (.cells #[.slice none 0 0, .slice none 0 0, .int .i64 0, .slice none 0 0, .int .i64 0, .int .i64 0, .int .i64 0, .bool false, .bool false, .int .i64 0, .int .i64 0, .int .i64 0, .int .i64 0, .int .i64 0, .int .i64 0, .int .i64 0] 33)
  have O0 : Off [b] w (w.alloc (.cells #[.slice none 0 0, .slice none 0 0, .int .i64 0, .slice none 0 0, .int .i64 0, .int .i64 0, .int .i64 0, .bool false, .bool false, .int .i64 0, .int .i64 0, .int .i64 0, .int .i64 0, .int .i64 0, .int .i64 0, .int .i64 0] 33)) := (Off.refl _ _).alloc _
  have hz0 : (w.alloc (.cells #[.slice none 0 0, .slice none 0 0, .int .i64 0, .slice none 0 0, .int .i64 0, .int .i64 0, .int .i64 0, .bool false, .bool false, .int .i64 0, .int .i64 0, .int .i64 0, .int .i64 0, .int .i64 0, .int .i64 0, .int .i64 0] 33)).heap.size = w.heap.size + 1 := by simp
  clear hs
  go_enter Tryz.func27, Tryz.ntmps27
  go_wp2_with fail
  refine (spec_l4Draw b a cap zs k _ S0 (by omega)).mono ?_
  rintro e w1 ⟨q0, d0, q1, d1, q2, d2, xs, us, ch, sent, b0, b1, b2, rfl, T1, U1, H1, j01, j02, j12, hD, hul, f0, f1, f2, ⟨j, hj, s1⟩, o1⟩
  rw [hz0] at f0 f1 f2
  have Y1 := Y0.off o1 nb
  have O1 := O0.trans o1
  have z1 := o1.size
  rw [hz0] at z1
  have HD : Hid (TapeD xs) := hD
  have HL : Hid (xs.length = 4) := hD.1
  have HU : Hid (us.length = 4) := hul
  clear hD hul Y0 S0 O0 o1 hz0
  have Zn := Blk.new w1 33 #[.slice none 0 0, .slice none 0 0, .int .i64 0, .slice none 0 0, .int .i64 0, .int .i64 0, .int .i64 0, .bool false, .bool false, .int .i64 0, .int .i64 0, .int .i64 0, .int .i64 0, .int .i64 0, .int .i64 0, .int .i64 0]
  go_wp2_with (refine wpList_store_blk rfl 33 _ _ rfl w1.heap.size (#[.slice q0 4 d0, .slice q1 4 d1, .int .i64 sent, .slice q2 4 d2, .int .i64 ch.xWho, .int .i64 ch.xAt, .int .i64 ch.xBy, .bool ch.xCry, .bool false, .int .i64 0, .int .i64 0, .int .i64 0, .int .i64 0, .int .i64 0, .int .i64 0, .int .i64 0]) rfl rfl Zn rfl (by kernel_rfl) (by kernel_rfl) ?_; intro w2 Z2 O2)
  have O2' : ∀ y, y < w1.heap.size → y ∉ [w1.heap.size] := fun y hy hm => by simp at hm; omega
  have Y2 := (Y1.alloc (.cells #[.slice none 0 0, .slice none 0 0, .int .i64 0, .slice none 0 0, .int .i64 0, .int .i64 0, .int .i64 0, .bool false, .bool false, .int .i64 0, .int .i64 0, .int .i64 0, .int .i64 0, .int .i64 0, .int .i64 0, .int .i64 0] 33)).off O2 (O2' _ Y1.lt)
  have T2 := (T1.alloc (.cells #[.slice none 0 0, .slice none 0 0, .int .i64 0, .slice none 0 0, .int .i64 0, .int .i64 0, .int .i64 0, .bool false, .bool false, .int .i64 0, .int .i64 0, .int .i64 0, .int .i64 0, .int .i64 0, .int .i64 0, .int .i64 0] 33)).off O2 (fun y hy => O2' y (T1.lt y hy))
  have U2 := (Ints.alloc U1 (.cells #[.slice none 0 0, .slice none 0 0, .int .i64 0, .slice none 0 0, .int .i64 0, .int .i64 0, .int .i64 0, .bool false, .bool false, .int .i64 0, .int .i64 0, .int .i64 0, .int .i64 0, .int .i64 0, .int .i64 0, .int .i64 0] 33)).off O2 (fun y hy => O2' y (U1.lt y hy))
  have H2 := (H1.alloc (.cells #[.slice none 0 0, .slice none 0 0, .int .i64 0, .slice none 0 0, .int .i64 0, .int .i64 0, .int .i64 0, .bool false, .bool false, .int .i64 0, .int .i64 0, .int .i64 0, .int .i64 0, .int .i64 0, .int .i64 0, .int .i64 0] 33)).off O2 (fun y hy => O2' y (H1.lt y hy))
  have s2 := (s1.alloc (.cells #[.slice none 0 0, .slice none 0 0, .int .i64 0, .slice none 0 0, .int .i64 0, .int .i64 0, .int .i64 0, .bool false, .bool false, .int .i64 0, .int .i64 0, .int .i64 0, .int .i64 0, .int .i64 0, .int .i64 0, .int .i64 0] 33)).off O2 (fun y hy => by simp at hy; omega)
  have P2 : Off [b] w w2 := (O1.alloc (.cells #[.slice none 0 0, .slice none 0 0, .int .i64 0, .slice none 0 0, .int .i64 0, .int .i64 0, .int .i64 0, .bool false, .bool false, .int .i64 0, .int .i64 0, .int .i64 0, .int .i64 0, .int .i64 0, .int .i64 0, .int .i64 0] 33)).fresh O2 (fun y hy => by simp at hy; omega)
  have n0 : w1.heap.size ∉ b0 := fun h => Nat.lt_irrefl _ (T1.lt _ h)
  have n1 : w1.heap.size ∉ b1 := fun h => Nat.lt_irrefl _ (U1.lt _ h)
  have n2 : w1.heap.size ∉ b2 := fun h => Nat.lt_irrefl _ (H1.lt _ h)
  clear Zn Y1 T1 U1 H1 s1 O1 O2 O2'
  generalize w1.heap.size = g at *
  go_wp2_with fail
  refine (spec_l1Next b a cap zs (k + j) 14 _ s2 (by omega) (by omega)).mono ?_
  rintro e w3 ⟨r, rfl, -, s3, o3⟩
  have Y3 := Y2.off o3 nb
  have Z3 := Z2.off o3 (by simp; omega)
  have T3 := T2.off o3 (fun y hy hm => by have := f0 y hy; simp at hm; omega)
  have U3 := U2.off o3 (fun y hy hm => by have := f1 y hy; simp at hm; omega)
  have H3 := H2.off o3 (fun y hy hm => by have := f2 y hy; simp at hm; omega)
  have P3 := P2.trans o3
  have lg := Z3.lt
  clear Y2 Z2 T2 U2 H2 s2 P2 o3
  by_cases h0 : r = 0
  · have e0 : (r == 0) = true := by simpa using h0
    clear h0
    go_wp2_with fail
    refine (spec_l2Bent b a cap zs (k + j + 1) _ s3 (by omega)).mono ?_
    rintro e w4 ⟨u, rfl, ys, hR, hB, ⟨j2, hj2, s4⟩, o4⟩
    obtain ⟨pt, ct, rfl, -⟩ := hR w4 [] (Off.refl _ _) (by simp)
    have HB : Hid (TapeB ys) := hB
    have HR : Hid (∀ W cs, Off cs w4 W → (∀ z ∈ cs, z < w3.heap.size) → ReadsM W (.slice pt ys.length ct) ys) := fun W cs o h => by
      obtain ⟨p', c', e, hm⟩ := hR W cs o h
      simp at e
      obtain ⟨rfl, rfl⟩ := e
      exact hm
    clear hR hB
    have Y4 := Y3.off o4 nb
    have Z4 := Z3.off o4 (by simp; omega)
    have U4 := U3.off o4 (fun y hy hm => by have := f1 y hy; simp at hm; omega)
    have H4 := H3.off o4 (fun y hy hm => by have := f2 y hy; simp at hm; omega)
    have P4 := P3.trans o4
    generalize hn : ys.length = n at *
    have HN : Hid (ys.length = n) := hn
    clear hn
    have za := Z4.at.1
    have zb := Z4.at.2
    have O5 : Off [g] w4 (w4.setCell ⟨g, 0, none⟩ (.slice pt n ct)) := (Off.refl _ _).setCell _ _ (by simp)
    have Z5 : Blk (w4.setCell ⟨g, 0, none⟩ (.slice pt n ct)) g 33 #[.slice pt n ct, .slice q1 4 d1, .int .i64 sent, .slice q2 4 d2, .int .i64 ch.xWho, .int .i64 ch.xAt, .int .i64 ch.xBy, .bool ch.xCry, .bool false, .int .i64 0, .int .i64 0, .int .i64 0, .int .i64 0, .int .i64 0, .int .i64 0, .int .i64 0] := Blk.of_eq (Z4.set 0 _) (by simp)
    have Y5 := Y4.off O5 (by simp; omega)
    have U5 := U4.off O5 (fun y hy hm => by simp at hm; exact n1 (hm ▸ hy))
    have H5 := H4.off O5 (fun y hy hm => by simp at hm; exact n2 (hm ▸ hy))
    have s5 := s4.off O5 (fun y hy => by simp at hy; omega)
    have P5 := P4.fresh O5 (fun y hy => by simp at hy; omega)
    clear Y4 Z4 U4 H4 s4 P4 Y3 Z3 T3 U3 H3 s3 P3 o4
    have RR : Hid (∀ V cs, Off cs (w4.setCell ⟨g, 0, none⟩ (.slice pt n ct)) V → (∀ z ∈ cs, z ≤ w.heap.size) → RdNet V (.agg #[.slice pt n ct, .slice q1 4 d1, .int .i64 sent, .slice q2 4 d2, .int .i64 ch.xWho, .int .i64 ch.xAt, .int .i64 ch.xBy, .bool ch.xCry, .bool false, .int .i64 0, .int .i64 0, .int .i64 0, .int .i64 0, .int .i64 0, .int .i64 0, .int .i64 0]) (⟨ys, us, sent, [[], [], [], []], ch, ⟨false, 0, 0, 0, 0, 0, 0, 0⟩⟩ : MNet)) := fun V cs o h => ⟨pt, ct, q1, d1, q2, d2, by dsimp only; rw [HN.out, HU.out]; rfl, (by dsimp only; rw [HN.out]; exact HR.out V ([g] ++ cs) ((O5.mono (fun y hy => List.mem_append_left _ hy)).trans (o.mono (fun y hy => List.mem_append_right _ hy))) (fun z hz => by rcases List.mem_append.1 hz with h' | h'; (simp at h'; omega); (have := h z h'; omega))), (by dsimp only; rw [HU.out]; exact Ints.reads (U5.off o (fun y hy hm => by have := f1 y hy; have := h y hm; omega))), (H5.off o (fun y hy hm => by have := f2 y hy; have := h y hm; omega)).reads⟩
    have HF : Hid (Fit (⟨ys, us, sent, [[], [], [], []], ch, ⟨false, 0, 0, 0, 0, 0, 0, 0⟩⟩ : MNet)) := fitN HB.out (by rw [HU.out]; omega) (by simp) four_rows
    go_wp2_with (first | (refine wpList_load_blk rfl 33 _ rfl g rfl Z5 Tryz.underlying33 rfl (by kernel_rfl) ?_) | (refine wpList_store_blk rfl 33 _ _ rfl w.heap.size (#[.slice pt n ct, .slice q1 4 d1, .int .i64 sent, .slice q2 4 d2, .int .i64 ch.xWho, .int .i64 ch.xAt, .int .i64 ch.xBy, .bool ch.xCry, .bool false, .int .i64 0, .int .i64 0, .int .i64 0, .int .i64 0, .int .i64 0, .int .i64 0, .int .i64 0]) rfl rfl Y5 rfl (by kernel_rfl) (by kernel_rfl) ?_; intro w9 Y9 O9))
    exact bodyPost_ret (v := .agg #[.slice pt n ct, .slice q1 4 d1, .int .i64 sent, .slice q2 4 d2, .int .i64 ch.xWho, .int .i64 ch.xAt, .int .i64 ch.xBy, .bool ch.xCry, .bool false, .int .i64 0, .int .i64 0, .int .i64 0, .int .i64 0, .int .i64 0, .int .i64 0, .int .i64 0]) (results_blk Tryz.results27 rfl Y9 Tryz.underlying33 rfl (by kernel_rfl)) rfl ⟨_, rfl, _, fun V cs o h => RR.out V ([w.heap.size] ++ cs) ((O9.mono (fun y hy => List.mem_append_left _ hy)).trans (o.mono (fun y hy => List.mem_append_right _ hy))) (fun z hz => by rcases List.mem_append.1 hz with h' | h'; (simp at h'; omega); (have := h z h'; omega)), HF.out, ⟨j + 1 + j2, by omega, (by have hsrc := s5.off O9 (fun y hy => by simp at hy; omega); simpa only [Nat.add_assoc] using hsrc)⟩, P5.fresh O9 (fun y hy => by simp at hy; omega)⟩
  · have e0 : (r == 0) = false := by simpa using h0
    clear h0
    by_cases h1 : r = 1
    · have e1 : (r == 1) = true := by simpa using h1
      clear h1
      obtain ⟨te, hO⟩ := U3
      rw [HU.out] at hO
      obtain ⟨g1, c1, rfl, eg, hc1, hc2⟩ := Own.shape hO (by omega)
      simp only [Value.slice.injEq, true_and] at eg
      obtain ⟨rfl, rfl⟩ := eg
      have za := Z3.at.1
      have zb := Z3.at.2
      have zl := Z3.lt
      have hg1 := f1 g1 (by simp)
      have hgn : g1 ≠ g := fun h => n1 (by simp [h])
      have hcc : (4 : Int) ≤ (d1 : Int) := by omega
      have hcm : d1 ≤ 9223372036854775807 := by unfold maxLen at hc2; omega
      have O5 : Off [g] w3 (w3.setCell ⟨g, 1, none⟩ (.slice (some ⟨g1, 1, none⟩) 3 (d1 - 1))) := (Off.refl _ _).setCell _ _ (by simp)
      have Z5 : Blk (w3.setCell ⟨g, 1, none⟩ (.slice (some ⟨g1, 1, none⟩) 3 (d1 - 1))) g 33 #[.slice q0 4 d0, .slice (some ⟨g1, 1, none⟩) 3 (d1 - 1), .int .i64 sent, .slice q2 4 d2, .int .i64 ch.xWho, .int .i64 ch.xAt, .int .i64 ch.xBy, .bool ch.xCry, .bool false, .int .i64 0, .int .i64 0, .int .i64 0, .int .i64 0, .int .i64 0, .int .i64 0, .int .i64 0] := Blk.of_eq (Z3.set 1 _) (by simp)
      have Y5 := Y3.off O5 (by simp; omega)
      have T5 := T3.off O5 (fun y hy hm => by simp at hm; exact n0 (hm ▸ hy))
      have H5 := H3.off O5 (fun y hy hm => by simp at hm; exact n2 (hm ▸ hy))
      have U5 := Own.off hO O5 (fun y hy hm => by simp at hm hy; omega)
      have s5 := s3.off O5 (fun y hy => by simp at hy; omega)
      have P5 := P3.fresh O5 (fun y hy => by simp at hy; omega)
      clear Y3 Z3 T3 H3 s3 P3 hO
      have RR : Hid (∀ V cs, Off cs (w3.setCell ⟨g, 1, none⟩ (.slice (some ⟨g1, 1, none⟩) 3 (d1 - 1))) V → (∀ z ∈ cs, z ≤ w.heap.size) → RdNet V (.agg #[.slice q0 4 d0, .slice (some ⟨g1, 1, none⟩) 3 (d1 - 1), .int .i64 sent, .slice q2 4 d2, .int .i64 ch.xWho, .int .i64 ch.xAt, .int .i64 ch.xBy, .bool ch.xCry, .bool false, .int .i64 0, .int .i64 0, .int .i64 0, .int .i64 0, .int .i64 0, .int .i64 0, .int .i64 0]) (⟨xs, us.drop 1, sent, [[], [], [], []], ch, ⟨false, 0, 0, 0, 0, 0, 0, 0⟩⟩ : MNet)) := fun V cs o h => ⟨q0, d0, some ⟨g1, 1, none⟩, d1 - 1, q2, d2, by dsimp only; rw [HL.out, List.length_drop, HU.out]; rfl, (by dsimp only; rw [HL.out]; exact (T5.off o (fun y hy hm => by have := f0 y hy; have := h y hm; omega)).reads), (by dsimp only; rw [List.length_drop, HU.out]; exact ints_drop1 (Own.off U5 o (fun y hy hm => by have := h y hm; simp at hy; omega)) HU.out), (H5.off o (fun y hy hm => by have := f2 y hy; have := h y hm; omega)).reads⟩
      have HF : Hid (Fit (⟨xs, us.drop 1, sent, [[], [], [], []], ch, ⟨false, 0, 0, 0, 0, 0, 0, 0⟩⟩ : MNet)) := fitN HD.out.b (by rw [List.length_drop, HU.out]; omega) (by simp) four_rows
      go_wp2_with (first | (refine wpList_load_blk rfl 33 _ rfl g rfl Z5 Tryz.underlying33 rfl (by kernel_rfl) ?_) | (refine wpList_store_blk rfl 33 _ _ rfl w.heap.size (#[.slice q0 4 d0, .slice (some ⟨g1, 1, none⟩) 3 (d1 - 1), .int .i64 sent, .slice q2 4 d2, .int .i64 ch.xWho, .int .i64 ch.xAt, .int .i64 ch.xBy, .bool ch.xCry, .bool false, .int .i64 0, .int .i64 0, .int .i64 0, .int .i64 0, .int .i64 0, .int .i64 0, .int .i64 0]) rfl rfl Y5 rfl (by kernel_rfl) (by kernel_rfl) ?_; intro w9 Y9 O9))
      exact bodyPost_ret (v := .agg #[.slice q0 4 d0, .slice (some ⟨g1, 1, none⟩) 3 (d1 - 1), .int .i64 sent, .slice q2 4 d2, .int .i64 ch.xWho, .int .i64 ch.xAt, .int .i64 ch.xBy, .bool ch.xCry, .bool false, .int .i64 0, .int .i64 0, .int .i64 0, .int .i64 0, .int .i64 0, .int .i64 0, .int .i64 0]) (results_blk Tryz.results27 rfl Y9 Tryz.underlying33 rfl (by kernel_rfl)) rfl ⟨_, rfl, _, fun V cs o h => RR.out V ([w.heap.size] ++ cs) ((O9.mono (fun y hy => List.mem_append_left _ hy)).trans (o.mono (fun y hy => List.mem_append_right _ hy))) (fun z hz => by rcases List.mem_append.1 hz with h' | h'; (simp at h'; omega); (have := h z h'; omega)), HF.out, ⟨j + 1, by omega, (by have hsrc := s5.off O9 (fun y hy => by simp at hy; omega); simpa only [Nat.add_assoc] using hsrc)⟩, P5.fresh O9 (fun y hy => by simp at hy; omega)⟩
    · have e1 : (r == 1) = false := by simpa using h1
      clear h1
      by_cases h2 : r = 2
      · have e2 : (r == 2) = true := by simpa using h2
        clear h2
        obtain ⟨g2, c2, u0, hv, ct, ft, hg2, PUT⟩ := H3.put 2 (by simp)
        simp only [Value.slice.injEq] at hv
        obtain ⟨rfl, -, rfl⟩ := hv
        have HP := (show Hid _ from PUT)
        clear PUT
        have hg2w := f2 g2 hg2
        have hgn : g2 ≠ g := fun h => n2 (h ▸ hg2)
        have ltg2 := H3.lt g2 hg2
        have sl := s3.blk.lt
        have za := Z3.at.1
        go_wp2_with fail
        clear za
        refine wp_region_held (S := fun V => (∀ o, V.cell? ⟨g, o, none⟩ = (#[.slice q0 4 d0, .slice q1 4 d1, .int .i64 sent, .slice (some ⟨g2, 0, none⟩) 4 d2, .int .i64 ch.xWho, .int .i64 ch.xAt, .int .i64 ch.xBy, .bool ch.xCry, .bool false, .int .i64 0, .int .i64 0, .int .i64 0, .int .i64 0, .int .i64 0, .int .i64 0, .int .i64 0] : Array Value)[o]?)) (by kernel_rfl) ?_
        try (change wpAnyH _ _ _ _ _ _ _ _ (World.drew _))
        have Zd := Z3.drew
        have sd : Src w3.drew b a cap zs (k + j + 1) := s3.keep (Below.refl _ _).drew
        have hS : (∀ o, w3.drew.cell? ⟨g, o, none⟩ = (#[.slice q0 4 d0, .slice q1 4 d1, .int .i64 sent, .slice (some ⟨g2, 0, none⟩) 4 d2, .int .i64 ch.xWho, .int .i64 ch.xAt, .int .i64 ch.xBy, .bool ch.xCry, .bool false, .int .i64 0, .int .i64 0, .int .i64 0, .int .i64 0, .int .i64 0, .int .i64 0, .int .i64 0] : Array Value)[o]?) := Zd.at.1
        refine wpAnyH_take (i := 0) (v := .pointer (some ⟨g, 3, none⟩)) rfl (by kernel_rfl) (by kernel_rfl) (by kernel_rfl) (fun _ _ _ h => h) (Or.inl ⟨by rfl, ?_⟩) hS ?_
        · intro w' hSw
          go_simp
        (try simp only [List.getElem_toArray]); (try simp only [List.getElem_cons_succ]); (try simp only [List.getElem_cons_zero]); (try simp only [Act.put]); (try simp only [List.setIfInBounds_toArray]); (try simp only [List.set_cons_succ]); (try simp only [List.set_cons_zero])
        refine wpAnyH_take (i := 1) (v := .slice (some ⟨g2, 0, none⟩) 4 d2) rfl (by kernel_rfl) (by kernel_rfl) (by kernel_rfl) (fun _ _ _ h => h) (Or.inl ⟨by rfl, ?_⟩) hS ?_
        · intro w' hSw
          go_simp
        (try simp only [List.getElem_toArray]); (try simp only [List.getElem_cons_succ]); (try simp only [List.getElem_cons_zero]); (try simp only [Act.put]); (try simp only [List.setIfInBounds_toArray]); (try simp only [List.set_cons_succ]); (try simp only [List.set_cons_zero])
        refine wpAnyH_take (i := 2) (v := .pointer (some ⟨b, 0, none⟩)) rfl (by kernel_rfl) (by kernel_rfl) (by kernel_rfl) (fun _ _ _ h => h) (Or.inl ⟨by rfl, ?_⟩) hS ?_
        · intro w' hSw
          go_simp
        (try simp only [List.getElem_toArray]); (try simp only [List.getElem_cons_succ]); (try simp only [List.getElem_cons_zero]); (try simp only [Act.put]); (try simp only [List.setIfInBounds_toArray]); (try simp only [List.set_cons_succ]); (try simp only [List.set_cons_zero])
        refine wpAnyH_ready (rs := [3]) (by kernel_rfl) (by simp) ?_
        refine AllReadyH.cons (o := _) rfl (fun K hK => ?_) AllReadyH.nil
        rw [if_pos (by rfl)]
        go_simp
        refine hK.out _ _ (Zd.alloc (.cells #[.int .i64 1, .int .i64 256] 2)).at.1 (fun hS => ?_)
        clear hK K
        (try simp only [List.getElem_toArray]); (try simp only [List.getElem_cons_succ]); (try simp only [List.getElem_cons_zero]); (try simp only [Act.put]); (try simp only [List.setIfInBounds_toArray]); (try simp only [List.set_cons_succ]); (try simp only [List.set_cons_zero])
        refine wpAnyH_ready (rs := [4]) (by kernel_rfl) (by simp) ?_
        refine AllReadyH.cons (o := _) rfl (fun K hK => ?_) AllReadyH.nil
        rw [if_pos (by rfl)]
        go_simp
        go_at_call 56
        refine (spec_l1Pick b a cap zs _ _ [1, 256] [w3.heap.size] _ (sd.alloc _) (by omega) (Ints.lit w3.drew _ _ 2 rfl rfl (by omega)) (by simp) (by simp) (by simp; omega)).mono ?_
        rintro e w4 ⟨r2, rfl, -, s4, o4⟩
        have Q4 : Off [b] w3 w4 := (((Off.refl [b] w3).drew).alloc (.cells #[.int .i64 1, .int .i64 256] 2)).trans o4
        have Z4 := Z3.off Q4 (by simp; omega)
        dsimp only
        refine hK.out _ _ Z4.at.1 (fun hS => ?_)
        clear hK K
        (try simp only [List.getElem_toArray]); (try simp only [List.getElem_cons_succ]); (try simp only [List.getElem_cons_zero]); (try simp only [Act.put]); (try simp only [List.setIfInBounds_toArray]); (try simp only [List.set_cons_succ]); (try simp only [List.set_cons_zero])
        refine wpAnyH_ready (rs := [5]) (by kernel_rfl) (by simp) ?_
        refine AllReadyH.cons (o := _) rfl (fun K hK => ?_) AllReadyH.nil
        rw [if_pos (by rfl)]
        go_simp
        refine hK.out _ _ (Z4.alloc (.cells #[.int .i64 r2] 2)).at.1 (fun hS => ?_)
        clear hK K
        (try simp only [List.getElem_toArray]); (try simp only [List.getElem_cons_succ]); (try simp only [List.getElem_cons_zero]); (try simp only [Act.put]); (try simp only [List.setIfInBounds_toArray]); (try simp only [List.set_cons_succ]); (try simp only [List.set_cons_zero])
        refine wpAnyH_take (i := 6) (v := .pointer (some ⟨g2, 2, none⟩)) rfl (by kernel_rfl) (by kernel_rfl) (by kernel_rfl) (fun _ _ _ h => h) (Or.inl ⟨by rfl, ?_⟩) hS ?_
        · intro w' hSw
          go_simp
        (try simp only [List.getElem_toArray]); (try simp only [List.getElem_cons_succ]); (try simp only [List.getElem_cons_zero]); (try simp only [Act.put]); (try simp only [List.setIfInBounds_toArray]); (try simp only [List.set_cons_succ]); (try simp only [List.set_cons_zero])
        have Q5 : Off [b] w3 (w4.alloc (.cells #[.int .i64 r2] 2)) := Q4.alloc _
        have c5 : (w4.alloc (.cells #[.int .i64 r2] 2)).cell? ⟨g2, 2, none⟩ = some u0 := ((Q5.at g2 ltg2 (by simp; omega)).1 2).trans ct
        have f5 : (w4.alloc (.cells #[.int .i64 r2] 2)).frozen? ⟨g2, 2, none⟩ = false := ((Q5.at g2 ltg2 (by simp; omega)).2 2).trans ft
        refine wpAnyH_ready (rs := [7]) (by kernel_rfl) (by simp) ?_
        refine AllReadyH.cons (o := _) rfl (fun K hK => ?_) AllReadyH.nil
        rw [if_pos (by rfl)]
        go_simp
        have lt4 : w3.heap.size < w4.heap.size := by have := o4.size; simp at this; exact this
        have ltg4 : g2 < w4.heap.size := by omega
        have eW : (w4.setCell ⟨g2, 2, none⟩ (.slice (some ⟨w4.heap.size, 0, none⟩) 1 1)).alloc (.cells #[.int .i64 r2] 2) = ((w4.alloc (.cells #[.int .i64 r2] 2)).setCell ⟨g2, 2, none⟩ (.slice (some ⟨w4.heap.size, 0, none⟩) 1 1)) := by rw [World.setCell_alloc_past _ _ _ _ ltg4]
        have EW : Hid _ := eW
        clear eW
        have Z5 : Blk ((w4.alloc (.cells #[.int .i64 r2] 2)).setCell ⟨g2, 2, none⟩ (.slice (some ⟨w4.heap.size, 0, none⟩) 1 1)) g 33 #[.slice q0 4 d0, .slice q1 4 d1, .int .i64 sent, .slice (some ⟨g2, 0, none⟩) 4 d2, .int .i64 ch.xWho, .int .i64 ch.xAt, .int .i64 ch.xBy, .bool ch.xCry, .bool false, .int .i64 0, .int .i64 0, .int .i64 0, .int .i64 0, .int .i64 0, .int .i64 0, .int .i64 0] := (Z4.alloc (.cells #[.int .i64 r2] 2)).setOther _ _ (by simp; omega)
        have I5 : Ints (w4.alloc (.cells #[.int .i64 r2] 2)) (.slice (some ⟨w4.heap.size, 0, none⟩) 1 1) [r2] [w4.heap.size] := Ints.lit w4 _ _ 1 rfl rfl (by omega)
        have O6 : Off [g2] (w4.alloc (.cells #[.int .i64 r2] 2)) ((w4.alloc (.cells #[.int .i64 r2] 2)).setCell ⟨g2, 2, none⟩ (.slice (some ⟨w4.heap.size, 0, none⟩) 1 1)) := (Off.refl _ _).setCell _ _ (by simp)
        have I6 := I5.off O6 (by simp; omega)
        have Q6 : Off [b, g2] w3 ((w4.alloc (.cells #[.int .i64 r2] 2)).setCell ⟨g2, 2, none⟩ (.slice (some ⟨w4.heap.size, 0, none⟩) 1 1)) := (Q5.mono (by simp)).trans (O6.mono (by simp))
        have Y6 := Y3.off Q6 (by simp; omega)
        have T6 := T3.off Q6 (fun y hy hm => by have := f0 y hy; simp at hm; rcases hm with h | h; omega; (exact j02 y hy (h ▸ hg2)))
        have U6 := U3.off Q6 (fun y hy hm => by have := f1 y hy; simp at hm; rcases hm with h | h; omega; (exact j12 y hy (h ▸ hg2)))
        have s6 := (s4.alloc (.cells #[.int .i64 r2] 2)).off O6 (fun y hy => by simp at hy; omega)
        have P6 := (P3.trans Q5).fresh O6 (fun y hy => by simp at hy; omega)
        try rw [EW.out]
        refine hK.out _ _ Z5.at.1 (fun hS => ?_)
        clear hK K
        refine wpAnyH_done (by kernel_rfl) ?_ _
        have RD6 : Hid (∀ V cs, Off cs ((w4.alloc (.cells #[.int .i64 r2] 2)).setCell ⟨g2, 2, none⟩ (.slice (some ⟨w4.heap.size, 0, none⟩) 1 1)) V → (∀ z ∈ cs, z ≤ w.heap.size) → ReadsM V (.slice (some ⟨g2, 0, none⟩) 4 d2) [[], [], [r2], []]) := fun V cs o h => HP.out (w4.alloc (.cells #[.int .i64 r2] 2)) V [b] cs _ [r2] Q5 (fun y hy hm => by have := f2 y hy; simp at hm; omega) o (fun y hy hm => by have := f2 y hy; have := h y hm; omega) (Ints.reads (I6.off o (fun y hy hm => by have := h y hm; simp at hy; omega)))
        clear hS c5 f5 Q5 Q6 O6 I5 I6 Z4 Zd sd s4 o4 Q4 Y3 Z3 T3 U3 H3 s3 P3 HP EW ct ft
        generalize ((w4.alloc (.cells #[.int .i64 r2] 2)).setCell ⟨g2, 2, none⟩ (.slice (some ⟨w4.heap.size, 0, none⟩) 1 1)) = w6 at *
        have RR : Hid (∀ V cs, Off cs w6 V → (∀ z ∈ cs, z ≤ w.heap.size) → RdNet V (.agg #[.slice q0 4 d0, .slice q1 4 d1, .int .i64 sent, .slice (some ⟨g2, 0, none⟩) 4 d2, .int .i64 ch.xWho, .int .i64 ch.xAt, .int .i64 ch.xBy, .bool ch.xCry, .bool false, .int .i64 0, .int .i64 0, .int .i64 0, .int .i64 0, .int .i64 0, .int .i64 0, .int .i64 0]) (⟨xs, us, sent, [[], [], [r2], []], ch, ⟨false, 0, 0, 0, 0, 0, 0, 0⟩⟩ : MNet)) := fun V cs o h => ⟨q0, d0, q1, d1, some ⟨g2, 0, none⟩, d2, by dsimp only; rw [HL.out, HU.out]; rfl, (by dsimp only; rw [HL.out]; exact (T6.off o (fun y hy hm => by have := f0 y hy; have := h y hm; omega)).reads), (by dsimp only; rw [HU.out]; exact Ints.reads (U6.off o (fun y hy hm => by have := f1 y hy; have := h y hm; omega))), RD6.out V cs o h⟩
        have HF : Hid (Fit (⟨xs, us, sent, [[], [], [r2], []], ch, ⟨false, 0, 0, 0, 0, 0, 0, 0⟩⟩ : MNet)) := fitN HD.out.b (by rw [HU.out]; omega) (by simp) (fun k => by (rcases k with _ | _ | _ | _ | k) <;> simp)
        go_wp2_with (first | (refine wpList_load_blk rfl 33 _ rfl g rfl Z5 Tryz.underlying33 rfl (by kernel_rfl) ?_) | (refine wpList_store_blk rfl 33 _ _ rfl w.heap.size (#[.slice q0 4 d0, .slice q1 4 d1, .int .i64 sent, .slice (some ⟨g2, 0, none⟩) 4 d2, .int .i64 ch.xWho, .int .i64 ch.xAt, .int .i64 ch.xBy, .bool ch.xCry, .bool false, .int .i64 0, .int .i64 0, .int .i64 0, .int .i64 0, .int .i64 0, .int .i64 0, .int .i64 0]) rfl rfl Y6 rfl (by kernel_rfl) (by kernel_rfl) ?_; intro w9 Y9 O9))
        exact bodyPost_ret (v := .agg #[.slice q0 4 d0, .slice q1 4 d1, .int .i64 sent, .slice (some ⟨g2, 0, none⟩) 4 d2, .int .i64 ch.xWho, .int .i64 ch.xAt, .int .i64 ch.xBy, .bool ch.xCry, .bool false, .int .i64 0, .int .i64 0, .int .i64 0, .int .i64 0, .int .i64 0, .int .i64 0, .int .i64 0]) (results_blk Tryz.results27 rfl Y9 Tryz.underlying33 rfl (by kernel_rfl)) rfl ⟨_, rfl, _, fun V cs o h => RR.out V ([w.heap.size] ++ cs) ((O9.mono (fun y hy => List.mem_append_left _ hy)).trans (o.mono (fun y hy => List.mem_append_right _ hy))) (fun z hz => by rcases List.mem_append.1 hz with h' | h'; (simp at h'; omega); (have := h z h'; omega)), HF.out, ⟨j + 1 + 1, by omega, (by have hsrc := s6.off O9 (fun y hy => by simp at hy; omega); simpa only [Nat.add_assoc] using hsrc)⟩, P6.fresh O9 (fun y hy => by simp at hy; omega)⟩
      · have e2 : (r == 2) = false := by simpa using h2
        clear h2
        by_cases h3 : r = 3
        · have e3 : (r == 3) = true := by simpa using h3
          clear h3
          have sl := s3.blk.lt
          go_wp2_with fail
          refine (spec_l1Pick b a cap zs _ _ [-2, 4] [w3.heap.size] _ (s3.alloc _) (by omega) (Ints.lit w3 _ _ 2 rfl rfl (by omega)) (by simp) (by simp) (by simp; omega)).mono ?_
          rintro e w4 ⟨r2, rfl, -, s4, o4⟩
          have Q4 : Off [b] w3 w4 := ((Off.refl _ _).alloc _).trans o4
          have Y4 := Y3.off Q4 nb
          have Z4 := Z3.off Q4 (by simp; omega)
          have T4 := T3.off Q4 (fun y hy hm => by have := f0 y hy; simp at hm; omega)
          have U4 := U3.off Q4 (fun y hy hm => by have := f1 y hy; simp at hm; omega)
          have H4 := H3.off Q4 (fun y hy hm => by have := f2 y hy; simp at hm; omega)
          have P4 := P3.trans Q4
          have za := Z4.at.1
          have zb := Z4.at.2
          have O5 : Off [g] w4 (w4.setCell ⟨g, 4, none⟩ (.int .i64 r2)) := (Off.refl _ _).setCell _ _ (by simp)
          have Z5 : Blk (w4.setCell ⟨g, 4, none⟩ (.int .i64 r2)) g 33 #[.slice q0 4 d0, .slice q1 4 d1, .int .i64 sent, .slice q2 4 d2, .int .i64 r2, .int .i64 ch.xAt, .int .i64 ch.xBy, .bool ch.xCry, .bool false, .int .i64 0, .int .i64 0, .int .i64 0, .int .i64 0, .int .i64 0, .int .i64 0, .int .i64 0] := Blk.of_eq (Z4.set 4 _) (by simp)
          have Y5 := Y4.off O5 (by simp; omega)
          have T5 := T4.off O5 (fun y hy hm => by simp at hm; exact n0 (hm ▸ hy))
          have U5 := U4.off O5 (fun y hy hm => by simp at hm; exact n1 (hm ▸ hy))
          have H5 := H4.off O5 (fun y hy hm => by simp at hm; exact n2 (hm ▸ hy))
          have s5 := s4.off O5 (fun y hy => by simp at hy; omega)
          have P5 := P4.fresh O5 (fun y hy => by simp at hy; omega)
          clear Y4 Z4 T4 U4 H4 s4 P4 Y3 Z3 T3 U3 H3 s3 P3 o4 Q4
          have RR : Hid (∀ V cs, Off cs (w4.setCell ⟨g, 4, none⟩ (.int .i64 r2)) V → (∀ z ∈ cs, z ≤ w.heap.size) → RdNet V (.agg #[.slice q0 4 d0, .slice q1 4 d1, .int .i64 sent, .slice q2 4 d2, .int .i64 r2, .int .i64 ch.xAt, .int .i64 ch.xBy, .bool ch.xCry, .bool false, .int .i64 0, .int .i64 0, .int .i64 0, .int .i64 0, .int .i64 0, .int .i64 0, .int .i64 0]) (⟨xs, us, sent, [[], [], [], []], ⟨r2, ch.xAt, ch.xBy, ch.xCry⟩, ⟨false, 0, 0, 0, 0, 0, 0, 0⟩⟩ : MNet)) := fun V cs o h => ⟨q0, d0, q1, d1, q2, d2, by dsimp only; rw [HL.out, HU.out]; rfl, (by dsimp only; rw [HL.out]; exact (T5.off o (fun y hy hm => by have := f0 y hy; have := h y hm; omega)).reads), (by dsimp only; rw [HU.out]; exact Ints.reads (U5.off o (fun y hy hm => by have := f1 y hy; have := h y hm; omega))), (H5.off o (fun y hy hm => by have := f2 y hy; have := h y hm; omega)).reads⟩
          have HF : Hid (Fit (⟨xs, us, sent, [[], [], [], []], ⟨r2, ch.xAt, ch.xBy, ch.xCry⟩, ⟨false, 0, 0, 0, 0, 0, 0, 0⟩⟩ : MNet)) := fitN HD.out.b (by rw [HU.out]; omega) (by simp) four_rows
          go_wp2_with (first | (refine wpList_load_blk rfl 33 _ rfl g rfl Z5 Tryz.underlying33 rfl (by kernel_rfl) ?_) | (refine wpList_store_blk rfl 33 _ _ rfl w.heap.size (#[.slice q0 4 d0, .slice q1 4 d1, .int .i64 sent, .slice q2 4 d2, .int .i64 r2, .int .i64 ch.xAt, .int .i64 ch.xBy, .bool ch.xCry, .bool false, .int .i64 0, .int .i64 0, .int .i64 0, .int .i64 0, .int .i64 0, .int .i64 0, .int .i64 0]) rfl rfl Y5 rfl (by kernel_rfl) (by kernel_rfl) ?_; intro w9 Y9 O9))
          exact bodyPost_ret (v := .agg #[.slice q0 4 d0, .slice q1 4 d1, .int .i64 sent, .slice q2 4 d2, .int .i64 r2, .int .i64 ch.xAt, .int .i64 ch.xBy, .bool ch.xCry, .bool false, .int .i64 0, .int .i64 0, .int .i64 0, .int .i64 0, .int .i64 0, .int .i64 0, .int .i64 0]) (results_blk Tryz.results27 rfl Y9 Tryz.underlying33 rfl (by kernel_rfl)) rfl ⟨_, rfl, _, fun V cs o h => RR.out V ([w.heap.size] ++ cs) ((O9.mono (fun y hy => List.mem_append_left _ hy)).trans (o.mono (fun y hy => List.mem_append_right _ hy))) (fun z hz => by rcases List.mem_append.1 hz with h' | h'; (simp at h'; omega); (have := h z h'; omega)), HF.out, ⟨j + 1 + 1, by omega, (by have hsrc := s5.off O9 (fun y hy => by simp at hy; omega); simpa only [Nat.add_assoc] using hsrc)⟩, P5.fresh O9 (fun y hy => by simp at hy; omega)⟩
        · have e3 : (r == 3) = false := by simpa using h3
          clear h3
          by_cases h4 : r = 4
          · have e4 : (r == 4) = true := by simpa using h4
            clear h4
            go_wp2_with (first | (refine wpList_store_end rfl 31 _ _ rfl g 8 (#[.bool true, .int .i64 1, .int .i64 2, .int .i64 0, .int .i64 0, .int .i64 0, .int .i64 0, .int .i64 0]) rfl rfl Z3 rfl (by kernel_rfl) (by kernel_rfl) ?_; intro w5 Z5 O5; have Z6 : Blk w5 g 33 #[.slice q0 4 d0, .slice q1 4 d1, .int .i64 sent, .slice q2 4 d2, .int .i64 ch.xWho, .int .i64 ch.xAt, .int .i64 ch.xBy, .bool ch.xCry, .bool true, .int .i64 1, .int .i64 2, .int .i64 0, .int .i64 0, .int .i64 0, .int .i64 0, .int .i64 0] := Z5; have Y5 := Y3.off O5 (by simp; omega)) | (refine wpList_load_blk rfl 33 _ rfl g rfl Z6 Tryz.underlying33 rfl (by kernel_rfl) ?_) | (refine wpList_store_blk rfl 33 _ _ rfl w.heap.size (#[.slice q0 4 d0, .slice q1 4 d1, .int .i64 sent, .slice q2 4 d2, .int .i64 ch.xWho, .int .i64 ch.xAt, .int .i64 ch.xBy, .bool ch.xCry, .bool true, .int .i64 1, .int .i64 2, .int .i64 0, .int .i64 0, .int .i64 0, .int .i64 0, .int .i64 0]) rfl rfl Y5 rfl (by kernel_rfl) (by kernel_rfl) ?_; intro w9 Y9 O9))
            have T5 := T3.off O5 (fun y hy hm => by simp at hm; exact n0 (hm ▸ hy))
            have U5 := U3.off O5 (fun y hy hm => by simp at hm; exact n1 (hm ▸ hy))
            have H5 := H3.off O5 (fun y hy hm => by simp at hm; exact n2 (hm ▸ hy))
            have s5 := s3.off O5 (fun y hy => by simp at hy; omega)
            have P5 := P3.fresh O5 (fun y hy => by simp at hy; omega)
            have RR : Hid (∀ V cs, Off cs w5 V → (∀ z ∈ cs, z ≤ w.heap.size) → RdNet V (.agg #[.slice q0 4 d0, .slice q1 4 d1, .int .i64 sent, .slice q2 4 d2, .int .i64 ch.xWho, .int .i64 ch.xAt, .int .i64 ch.xBy, .bool ch.xCry, .bool true, .int .i64 1, .int .i64 2, .int .i64 0, .int .i64 0, .int .i64 0, .int .i64 0, .int .i64 0]) (⟨xs, us, sent, [[], [], [], []], ch, ⟨true, 1, 2, 0, 0, 0, 0, 0⟩⟩ : MNet)) := fun V cs o h => ⟨q0, d0, q1, d1, q2, d2, by dsimp only; rw [HL.out, HU.out]; rfl, (by dsimp only; rw [HL.out]; exact (T5.off o (fun y hy hm => by have := f0 y hy; have := h y hm; omega)).reads), (by dsimp only; rw [HU.out]; exact Ints.reads (U5.off o (fun y hy hm => by have := f1 y hy; have := h y hm; omega))), (H5.off o (fun y hy hm => by have := f2 y hy; have := h y hm; omega)).reads⟩
            have HF : Hid (Fit (⟨xs, us, sent, [[], [], [], []], ch, ⟨true, 1, 2, 0, 0, 0, 0, 0⟩⟩ : MNet)) := fitN HD.out.b (by rw [HU.out]; omega) (by simp) four_rows
            exact bodyPost_ret (v := .agg #[.slice q0 4 d0, .slice q1 4 d1, .int .i64 sent, .slice q2 4 d2, .int .i64 ch.xWho, .int .i64 ch.xAt, .int .i64 ch.xBy, .bool ch.xCry, .bool true, .int .i64 1, .int .i64 2, .int .i64 0, .int .i64 0, .int .i64 0, .int .i64 0, .int .i64 0]) (results_blk Tryz.results27 rfl Y9 Tryz.underlying33 rfl (by kernel_rfl)) rfl ⟨_, rfl, _, fun V cs o h => RR.out V ([w.heap.size] ++ cs) ((O9.mono (fun y hy => List.mem_append_left _ hy)).trans (o.mono (fun y hy => List.mem_append_right _ hy))) (fun z hz => by rcases List.mem_append.1 hz with h' | h'; (simp at h'; omega); (have := h z h'; omega)), HF.out, ⟨j + 1, by omega, (by have hsrc := s5.off O9 (fun y hy => by simp at hy; omega); simpa only [Nat.add_assoc] using hsrc)⟩, P5.fresh O9 (fun y hy => by simp at hy; omega)⟩
          · have e4 : (r == 4) = false := by simpa using h4
            clear h4
            have RR : Hid (∀ V cs, Off cs w3 V → (∀ z ∈ cs, z ≤ w.heap.size) → RdNet V (.agg #[.slice q0 4 d0, .slice q1 4 d1, .int .i64 sent, .slice q2 4 d2, .int .i64 ch.xWho, .int .i64 ch.xAt, .int .i64 ch.xBy, .bool ch.xCry, .bool false, .int .i64 0, .int .i64 0, .int .i64 0, .int .i64 0, .int .i64 0, .int .i64 0, .int .i64 0]) (⟨xs, us, sent, [[], [], [], []], ch, ⟨false, 0, 0, 0, 0, 0, 0, 0⟩⟩ : MNet)) := fun V cs o h => ⟨q0, d0, q1, d1, q2, d2, by dsimp only; rw [HL.out, HU.out]; rfl, (by dsimp only; rw [HL.out]; exact (T3.off o (fun y hy hm => by have := f0 y hy; have := h y hm; omega)).reads), (by dsimp only; rw [HU.out]; exact Ints.reads (U3.off o (fun y hy hm => by have := f1 y hy; have := h y hm; omega))), (H3.off o (fun y hy hm => by have := f2 y hy; have := h y hm; omega)).reads⟩
            have HF : Hid (Fit (⟨xs, us, sent, [[], [], [], []], ch, ⟨false, 0, 0, 0, 0, 0, 0, 0⟩⟩ : MNet)) := fitN HD.out.b (by rw [HU.out]; omega) (by simp) four_rows
            go_wp2_with (first | (refine wpList_load_blk rfl 33 _ rfl g rfl Z3 Tryz.underlying33 rfl (by kernel_rfl) ?_) | (refine wpList_store_blk rfl 33 _ _ rfl w.heap.size (#[.slice q0 4 d0, .slice q1 4 d1, .int .i64 sent, .slice q2 4 d2, .int .i64 ch.xWho, .int .i64 ch.xAt, .int .i64 ch.xBy, .bool ch.xCry, .bool false, .int .i64 0, .int .i64 0, .int .i64 0, .int .i64 0, .int .i64 0, .int .i64 0, .int .i64 0]) rfl rfl Y3 rfl (by kernel_rfl) (by kernel_rfl) ?_; intro w9 Y9 O9))
            exact bodyPost_ret (v := .agg #[.slice q0 4 d0, .slice q1 4 d1, .int .i64 sent, .slice q2 4 d2, .int .i64 ch.xWho, .int .i64 ch.xAt, .int .i64 ch.xBy, .bool ch.xCry, .bool false, .int .i64 0, .int .i64 0, .int .i64 0, .int .i64 0, .int .i64 0, .int .i64 0, .int .i64 0]) (results_blk Tryz.results27 rfl Y9 Tryz.underlying33 rfl (by kernel_rfl)) rfl ⟨_, rfl, _, fun V cs o h => RR.out V ([w.heap.size] ++ cs) ((O9.mono (fun y hy => List.mem_append_left _ hy)).trans (o.mono (fun y hy => List.mem_append_right _ hy))) (fun z hz => by rcases List.mem_append.1 hz with h' | h'; (simp at h'; omega); (have := h z h'; omega)), HF.out, ⟨j + 1, by omega, (by have hsrc := s3.off O9 (fun y hy => by simp at hy; omega); simpa only [Nat.add_assoc] using hsrc)⟩, P3.fresh O9 (fun y hy => by simp at hy; omega)⟩
end Go.Proofs.YtepobckhfodngabGreat
