/-
  Many inputs in the model.
-/
import Derived.Test.YtbmemdgeohnpnalGreatGv3
import Derived.Test.YtbmemdgeohnpnalGreatOff2
import Derived.Test.YtbmemdgeohnpnalGreatMsG
import Derived.Test.YtbmemdgeohnpnalGreatCopyT
namespace Go.Proofs.YtbmemdgeohnpnalGreat
open Go.ChangeShapes Go.WideShapes Go.ChangeAt Go.RowKit
set_option linter.unusedVariables false

def NetIn2 (w : World) (b0 : Nat) (x : MNet) (bs : List Nat) : Prop :=
  ∃ q0 q1 gH d0 d1 d2 bt b1 b2, Blk w b0 56 #[.int .i64 0, .slice none 0 0, .slice q0 x.xTape.length d0, .slice q1 x.xUsed.length d1, .int .i64 x.xSent, .slice (some ⟨gH, 0, none⟩) x.xHeard.length d2, .int .i64 x.xCheat.xWho, .int .i64 x.xCheat.xAt, .int .i64 x.xCheat.xBy, .bool x.xCheat.xCry, .bool x.xQuarrel.xSome, .int .i64 x.xQuarrel.xFrom, .int .i64 x.xQuarrel.xCheck, .int .i64 x.xQuarrel.xTo, .int .i64 x.xQuarrel.xTold, .int .i64 x.xQuarrel.xHeard, .int .i64 x.xQuarrel.xOther, .int .i64 x.xQuarrel.xVowed] ∧ Mat w (.slice q0 x.xTape.length d0) x.xTape bt ∧ Ints w (.slice q1 x.xUsed.length d1) x.xUsed b1 ∧ MatT w (.slice (some ⟨gH, 0, none⟩) x.xHeard.length d2) x.xHeard b2 ∧ b0 ∉ bt ∧ b0 ∉ b1 ∧ b0 ∉ b2 ∧ Dj bt b1 ∧ Dj bt b2 ∧ Dj b1 b2 ∧ bs = bt ++ (b1 ++ b2)
theorem NetIn2.lt {w : World} {b0 : Nat} {x : MNet} {bs : List Nat} (h : NetIn2 w b0 x bs) : b0 < w.heap.size := by
  obtain ⟨q0, q1, gH, d0, d1, d2, bt, b1, b2, Z, T, U, H, n0, n1, n2, e01, e02, e12, rfl⟩ := h
  exact Z.lt
theorem NetIn2.lts {w : World} {b0 : Nat} {x : MNet} {bs : List Nat} (h : NetIn2 w b0 x bs) : ∀ y ∈ bs, y < w.heap.size := by
  obtain ⟨q0, q1, gH, d0, d1, d2, bt, b1, b2, Z, T, U, H, n0, n1, n2, e01, e02, e12, rfl⟩ := h
  intro y hy
  rcases List.mem_append.1 hy with h | h
  · exact T.lt y h
  · rcases List.mem_append.1 h with h | h
    · exact U.lt y h
    · exact H.lt y h
theorem NetIn2.off {w w' : World} {b0 : Nat} {x : MNet} {bs cs : List Nat} (h : NetIn2 w b0 x bs) (k : Off cs w w') (h0 : b0 ∉ cs) (hd : ∀ y ∈ bs, y ∉ cs) : NetIn2 w' b0 x bs := by
  obtain ⟨q0, q1, gH, d0, d1, d2, bt, b1, b2, Z, T, U, H, n0, n1, n2, e01, e02, e12, rfl⟩ := h
  exact ⟨q0, q1, gH, d0, d1, d2, bt, b1, b2, Z.off k h0, T.off k (fun y hy => hd y (by simp [hy])), U.off k (fun y hy => hd y (by simp [hy])), H.off k (fun y hy => hd y (by simp [hy])), n0, n1, n2, e01, e02, e12, rfl⟩
theorem NetIn2.keep {w w' : World} {b0 : Nat} {x : MNet} {bs : List Nat} (h : NetIn2 w b0 x bs) (k : Below w.heap.size w w') : NetIn2 w' b0 x bs := h.off (cs := []) (Off.ofBelow k) (by simp) (by simp)
theorem NetIn2.alloc {w : World} {b0 : Nat} {x : MNet} {bs : List Nat} (h : NetIn2 w b0 x bs) (o : Obj) : NetIn2 (w.alloc o) b0 x bs := h.keep ((Below.refl _ _).alloc (Nat.le_refl _) _)
theorem NetIn2.drew {w : World} {b0 : Nat} {x : MNet} {bs : List Nat} (h : NetIn2 w b0 x bs) : NetIn2 w.drew b0 x bs := h.keep (Below.refl _ _).drew
theorem NetIn2.of {w : World} {b0 : Nat} {x : MNet} {q0 q1 q2 : Option Addr} {d0 d1 d2 : Nat} {bt b1 b2 : List Nat} (Z : Blk w b0 56 #[.int .i64 0, .slice none 0 0, .slice q0 x.xTape.length d0, .slice q1 x.xUsed.length d1, .int .i64 x.xSent, .slice q2 x.xHeard.length d2, .int .i64 x.xCheat.xWho, .int .i64 x.xCheat.xAt, .int .i64 x.xCheat.xBy, .bool x.xCheat.xCry, .bool x.xQuarrel.xSome, .int .i64 x.xQuarrel.xFrom, .int .i64 x.xQuarrel.xCheck, .int .i64 x.xQuarrel.xTo, .int .i64 x.xQuarrel.xTold, .int .i64 x.xQuarrel.xHeard, .int .i64 x.xQuarrel.xOther, .int .i64 x.xQuarrel.xVowed]) (T : Mat w (.slice q0 x.xTape.length d0) x.xTape bt) (U : Ints w (.slice q1 x.xUsed.length d1) x.xUsed b1) (H : MatT w (.slice q2 x.xHeard.length d2) x.xHeard b2)
    (n0 : b0 ∉ bt) (n1 : b0 ∉ b1) (n2 : b0 ∉ b2) (e01 : Dj bt b1) (e02 : Dj bt b2) (e12 : Dj b1 b2) (h4 : 0 < x.xHeard.length) : NetIn2 w b0 x (bt ++ (b1 ++ b2)) := by
  obtain ⟨gH, d2b, eg⟩ : ∃ gH d2b, Value.slice q2 x.xHeard.length d2 = .slice (some ⟨gH, 0, none⟩) x.xHeard.length d2b := by
    obtain ⟨vs, bo, bi, g1, g2, rfl, g3⟩ := H
    obtain ⟨g, c, rfl, eg, -, -⟩ := Own.shape g1 h4
    exact ⟨g, c, eg⟩
  simp only [Value.slice.injEq, true_and] at eg
  obtain ⟨rfl, rfl⟩ := eg
  exact ⟨q0, q1, gH, d0, d1, d2, bt, b1, b2, Z, T, U, H, n0, n1, n2, e01, e02, e12, rfl⟩

theorem NetIn2.mirrors {w : World} {b0 : Nat} {x : MNet} {bs : List Nat} {g n c : Nat} (h : NetIn2 w b0 x bs) : ∃ q0 q1 gH d0 d1 d2 bt b1 b2, Blk (w.setCell ⟨b0, 1, none⟩ (.slice (some ⟨g, 0, none⟩) n c)) b0 56 #[.int .i64 0, .slice (some ⟨g, 0, none⟩) n c, .slice q0 x.xTape.length d0, .slice q1 x.xUsed.length d1, .int .i64 x.xSent, .slice (some ⟨gH, 0, none⟩) x.xHeard.length d2, .int .i64 x.xCheat.xWho, .int .i64 x.xCheat.xAt, .int .i64 x.xCheat.xBy, .bool x.xCheat.xCry, .bool x.xQuarrel.xSome, .int .i64 x.xQuarrel.xFrom, .int .i64 x.xQuarrel.xCheck, .int .i64 x.xQuarrel.xTo, .int .i64 x.xQuarrel.xTold, .int .i64 x.xQuarrel.xHeard, .int .i64 x.xQuarrel.xOther, .int .i64 x.xQuarrel.xVowed] ∧ Mat w (.slice q0 x.xTape.length d0) x.xTape bt ∧ Ints w (.slice q1 x.xUsed.length d1) x.xUsed b1 ∧ MatT w (.slice (some ⟨gH, 0, none⟩) x.xHeard.length d2) x.xHeard b2 ∧ b0 ∉ bt ∧ b0 ∉ b1 ∧ b0 ∉ b2 ∧ Dj bt b1 ∧ Dj bt b2 ∧ Dj b1 b2 ∧ bs = bt ++ (b1 ++ b2) := by
  obtain ⟨q0, q1, gH, d0, d1, d2, bt, b1, b2, Z, r⟩ := h
  exact ⟨q0, q1, gH, d0, d1, d2, bt, b1, b2, Blk.of_eq (Z.set 1 _) (by simp), r⟩
theorem NetIn2.cells {w : World} {b0 : Nat} {x : MNet} {bs : List Nat} (h : NetIn2 w b0 x bs) : (∃ v, w.cell? ⟨b0, 1, none⟩ = some v) ∧ w.frozen? ⟨b0, 1, none⟩ = false := by
  obtain ⟨q0, q1, gH, d0, d1, d2, bt, b1, b2, Z, r⟩ := h
  exact ⟨⟨_, Z.at.1 1⟩, Z.at.2 1⟩
theorem NetIn2.zero {w : World} {b0 : Nat} {x : MNet} {bs : List Nat} (h : NetIn2 w b0 x bs) : w.cell? ⟨b0, 1, none⟩ = some (.slice none 0 0) := by
  obtain ⟨q0, q1, gH, d0, d1, d2, bt, b1, b2, Z, r⟩ := h
  exact Z.at.1 1
theorem OutMany.of4 {w W' : World} {x : MNet} {ms : List MMirror} {pm : Option Addr} {cm : Nat} {bm : List Nat} (cd : Int) {q0 q1 : Option Addr} {gH d0 d1 d2 : Nat} {bt b1 b2 : List Nat}
    (T : Mat W' (.slice q0 x.xTape.length d0) x.xTape bt) (U : Ints W' (.slice q1 x.xUsed.length d1) x.xUsed b1) (H : MatT W' (.slice (some ⟨gH, 0, none⟩) x.xHeard.length d2) x.xHeard b2) (e01 : Dj bt b1) (e02 : Dj bt b2) (e12 : Dj b1 b2)
    (hf : ∀ y ∈ bt ++ (b1 ++ b2), w.heap.size ≤ y) (M : OwMirrorS W' (.slice pm ms.length cm) ms bm) (hm : ∀ y ∈ bm, w.heap.size ≤ y ∧ y ∉ bt ++ (b1 ++ b2)) (B : Below w.heap.size w W') :
    OutMany w W' ⟨cd, ms, x⟩ (.returned (.agg #[.int .i64 cd, .slice pm ms.length cm, .slice q0 x.xTape.length d0, .slice q1 x.xUsed.length d1, .int .i64 x.xSent, .slice (some ⟨gH, 0, none⟩) x.xHeard.length d2, .int .i64 x.xCheat.xWho, .int .i64 x.xCheat.xAt, .int .i64 x.xCheat.xBy, .bool x.xCheat.xCry, .bool x.xQuarrel.xSome, .int .i64 x.xQuarrel.xFrom, .int .i64 x.xQuarrel.xCheck, .int .i64 x.xQuarrel.xTo, .int .i64 x.xQuarrel.xTold, .int .i64 x.xQuarrel.xHeard, .int .i64 x.xQuarrel.xOther, .int .i64 x.xQuarrel.xVowed])) :=
  ⟨_, bm, bt, b1, b2, rfl, ⟨pm, cm, q0, d0, q1, d1, some ⟨gH, 0, none⟩, d2, rfl, M, T, U, H.mat, fun y hy hc => (hm y hy).2 (by simp [hc]), fun y hy hc => (hm y hy).2 (by simp [hc]), fun y hy hc => (hm y hy).2 (by simp [hc]), e01, e02, e12⟩, fun y hy => (hm y hy).1, fun y hy => hf y (by simp [hy]), fun y hy => hf y (by simp [hy]), fun y hy => hf y (by simp [hy]), B⟩
theorem Off.mix4 {bs cs : List Nat} {w w1 w2 : World} (h : Off bs w w1) (k : Off cs w1 w2) (hc : ∀ y ∈ cs, y ∈ bs ∨ w.heap.size ≤ y) : Off bs w w2 :=
  ⟨k.os.trans h.os, k.tape.trans h.tape, k.output.trans h.output, Nat.le_trans h.size k.size, fun i hi hn => (k.block i (Nat.lt_of_lt_of_le hi h.size) (fun hm => by rcases hc i hm with h' | h'; (exact hn h'); omega)).trans (h.block i hi hn)⟩
/-- mirrors in a list that grows -/
def MsO (w wr : World) (ms : List MMirror) (j g cap : Nat) (us : List Value) (bi : List (List Nat)) : Prop :=
  Own wr 36 2 (.slice (some ⟨g, 0, none⟩) j cap) j (msC us ms) [g] ∧ MsR wr us ms bi ∧ (g :: bi.flatten).Nodup ∧ ms.length = j ∧ (∀ y ∈ g :: bi.flatten, w.heap.size ≤ y)
theorem MsO.lts {w wr : World} {ms : List MMirror} {j g cap : Nat} {us : List Value} {bi : List (List Nat)} (h : MsO w wr ms j g cap us bi) : ∀ y ∈ g :: bi.flatten, y < wr.heap.size := fun y hy => by
  rcases List.mem_cons.1 hy with k | k
  · exact h.1.lt y (by simp [k])
  · exact h.2.1.lt y k
theorem MsO.off {w wr w' : World} {ms : List MMirror} {j g cap : Nat} {us : List Value} {bi : List (List Nat)} {cs : List Nat} (h : MsO w wr ms j g cap us bi) (o : Off cs wr w') (hn : ∀ y ∈ g :: bi.flatten, y ∉ cs) : MsO w w' ms j g cap us bi :=
  ⟨h.1.off o (fun y hy => hn y (by simp at hy; simp [hy])), h.2.1.off o (fun y hy => hn y (by simp only [List.mem_cons]; exact .inr hy)), h.2.2⟩
theorem MsO.push {w W w3 : World} {ms : List MMirror} {j g cap g3 c3 : Nat} {us : List Value} {bi : List (List Nat)} {u : Value} {bm : List Nat} {x : MMirror} (h : MsO w W ms j g cap us bi) (M : Mat W u x.xViews bm) (hm : ∀ y ∈ bm, y ∉ g :: bi.flatten) (hm2 : ∀ y ∈ bm, w.heap.size ≤ y) (hw : w.heap.size ≤ W.heap.size)
    (o3 : Own w3 36 2 (.slice (some ⟨g3, 0, none⟩) (j + 1) c3) (j + 1) (msC us ms ++ [.int .i64 x.xQ, u]) [g3]) (off : Off [g] W w3) (hg : g = g3 ∨ W.heap.size ≤ g3) : MsO w w3 (ms ++ [x]) (j + 1) g3 c3 (us ++ [u]) (bi ++ [bm]) := by
  obtain ⟨h1, h2, h3, h5, h4⟩ := h
  have l2 := h2.lt
  have lM := M.lt
  have nd : bm.Nodup := by obtain ⟨_, _, _, _, _, _, k⟩ := M; exact k
  have ng : g ∉ bi.flatten := (List.nodup_cons.1 h3).1
  have fe : (bi ++ [bm]).flatten = bi.flatten ++ bm := by simp
  have g3n : g3 ∉ bi.flatten ++ bm := fun hc => by
    rcases List.mem_append.1 hc with k | k
    · rcases hg with rfl | hg
      · exact ng k
      · have := l2 _ k; omega
    · rcases hg with rfl | hg
      · exact hm _ k (by simp)
      · have := lM _ k; omega
  refine ⟨by rw [msC_snoc u x h2.len.1]; exact o3, MsR.snoc (h2.off off (fun y hy hc => by simp at hc; exact ng (hc ▸ hy))) (M.off off (fun y hy hc => by simp at hc; exact hm y hy (by simp [hc]))), ?_, by simp [h5], ?_⟩
  · rw [fe]
    exact List.nodup_cons.2 ⟨g3n, nodup_app (List.nodup_cons.1 h3).2 nd (fun y hy hc => hm y hc (by simp only [List.mem_cons]; exact .inr hy))⟩
  · intro y hy
    rw [fe] at hy
    rcases List.mem_cons.1 hy with k | k
    · rcases hg with e | e
      · rw [k, ← e]; exact h4 g (by simp)
      · omega
    · rcases List.mem_append.1 k with k | k
      · exact h4 y (by simp only [List.mem_cons]; exact .inr k)
      · exact hm2 y k
theorem take_snoc4 (vs : List Int) {k : Nat} (h : k < vs.length) : vs.take (k + 1) = vs.take k ++ [vs.getD k 0] := by
  rw [List.take_add_one, List.getD_eq_getElem?_getD, List.getElem?_eq_getElem h]
  rfl
theorem spec_l6Input_net2 (b0 : Nat) (x : MNet) (bs : List Nat) (o : Nat) (v : Int) (m : Nat) (w : World) (N : NetIn2 w b0 x bs) (B : NetB m x) (hm : m ≤ 1000) (ho : o < 4) (hv : 0 ≤ v ∧ v < 256) :
    Calls Tryz.prog 92 #[.pointer (some ⟨b0, 2, none⟩), .int .i64 o, .int .i64 v] w fun e w' => ∃ p c bm cs, e = .returned (.agg #[.int .i64 256, .slice p 4 c]) ∧ Mat w' (.slice p 4 c) (mirRows (inParts x o v)) bm ∧ (∀ y ∈ bm, w.heap.size ≤ y ∧ y ∉ cs) ∧ NetIn2 w' b0 (gaveN x o v) cs ∧ (∀ y ∈ cs, y ∈ bs ∨ w.heap.size ≤ y) ∧ Off (b0 :: bs) w w' := by
  obtain ⟨q0, q1, gH, d0, d1, d2, bt, b1, b2, Z, T, U, H, n0, n1, n2, e01, e02, e12, rfl⟩ := N
  have lb := Z.lt
  have lt := T.lt
  have lu := U.lt
  refine (spec_l6Input2 b0 x q0 q1 gH d0 d1 d2 bt b1 b2 o v w Z T U H n0 n1 n2 e01 e02 e12 ho hv ⟨B.t4, B.u4, B.h4⟩ (fun j hj => by have := B.us j hj; omega) B.wd (by have := B.st; omega) B.by' (fun j => by have := B.hr j; omega)).mono ?_
  rintro e w3 ⟨p6, c6, bm, cs, rfl, M3, hf3, djm, Z3, T3, U3, H3, hcs3, O3⟩
  refine ⟨p6, c6, bm, bt ++ (b1 ++ cs), rfl, M3, fun y hy => ⟨hf3 y hy, fun hc => ?_⟩, ⟨q0, q1, gH, d0, d1, d2, bt, b1, cs, ?_, T3, ?_, ?_, n0, n1, fun hc => ?_, e01, fun y hy hc => ?_, fun y hy hc => ?_, rfl⟩, fun y hy => ?_, O3.mono (fun y hy => ?_)⟩
  · have h3 := hf3 y hy
    rcases List.mem_append.1 hc with h | h
    · have := lt y h; omega
    · rcases List.mem_append.1 h with h | h
      · have := lu y h; omega
      · exact djm y hy h
  · show Blk w3 b0 56 #[.int .i64 0, .slice none 0 0, .slice q0 x.xTape.length d0, .slice q1 (inU x.xUsed o 4).length d1, .int .i64 (inSt x o 4), .slice (some ⟨gH, 0, none⟩) (inHd x o (inL x o v 4) 4).length d2, .int .i64 x.xCheat.xWho, .int .i64 x.xCheat.xAt, .int .i64 x.xCheat.xBy, .bool x.xCheat.xCry, .bool x.xQuarrel.xSome, .int .i64 x.xQuarrel.xFrom, .int .i64 x.xQuarrel.xCheck, .int .i64 x.xQuarrel.xTo, .int .i64 x.xQuarrel.xTold, .int .i64 x.xQuarrel.xHeard, .int .i64 x.xQuarrel.xOther, .int .i64 x.xQuarrel.xVowed]
    rw [inU_len, inHd_len]
    exact Z3
  · show Ints w3 (.slice q1 (inU x.xUsed o 4).length d1) (inU x.xUsed o 4) b1
    rw [inU_len]
    exact U3
  · show MatT w3 (.slice (some ⟨gH, 0, none⟩) (inHd x o (inL x o v 4) 4).length d2) (inHd x o (inL x o v 4) 4) cs
    rw [inHd_len]
    exact H3
  · rcases hcs3 _ hc with h | h
    · exact n2 h
    · omega
  · rcases hcs3 _ hc with h | h
    · exact e02 y hy h
    · have := lt y hy; omega
  · rcases hcs3 _ hc with h | h
    · exact e12 y hy h
    · have := lu y hy; omega
  · rcases List.mem_append.1 hy with h | h
    · exact .inl (by simp [h])
    · rcases List.mem_append.1 h with h | h
      · exact .inl (by simp [h])
      · rcases hcs3 y h with h | h
        · exact .inl (by simp [h])
        · exact .inr h
  · rcases List.mem_cons.1 hy with h | h
    · simp [h]
    · rcases List.mem_append.1 h with h | h <;> simp [h]
theorem Tryz.infoM4 : (Tryz.prog.info? 36).map (fun i => (i.zero, i.size, i.bytes)) = some (some (.agg #[.int .i64 0, .slice none 0 0]), 2, 32) := by kernel_rfl
set_option maxHeartbeats 8000000 in
set_option maxRecDepth 100000 in
theorem spec_l6Many (b0 : Nat) (x : MNet) (bs : List Nat) (o : Nat) (lv : Value) (vs : List Int) (w : World) (N : NetIn2 w b0 x bs) (B : NetB 0 x) (ho : o < 4) (hn6 : vs.length ≤ 60) (hvb : ∀ j, j < vs.length → 0 ≤ vs.getD j 0 ∧ vs.getD j 0 < 256) (hl : ∀ W, Off (b0 :: bs) w W → Reads W .i64 lv vs) :
    Calls Tryz.prog 61 #[.pointer (some ⟨b0, 2, none⟩), .int .i64 o, lv] w fun e w' => ∃ g c us bi cs, e = .returned (.slice (some ⟨g, 0, none⟩) vs.length c) ∧ MsO w w' (gvM x o vs) vs.length g c us bi ∧ NetIn2 w' b0 (gvX x o vs) cs ∧ (∀ y ∈ cs, y ∈ bs ∨ w.heap.size ≤ y) ∧ (∀ y ∈ g :: bi.flatten, y ∉ cs) ∧ Off (b0 :: bs) w w' := by
  obtain ⟨iM, hiM, hzM0, hzM1, hzM2⟩ := info_parts Tryz.infoM4
  have HL : Hid (∀ W, Off (b0 :: bs) w W → Reads W .i64 lv vs) := hl
  obtain ⟨pl, cl, rfl⟩ : ∃ p c, lv = .slice p vs.length c := by obtain ⟨a, c, e, _⟩ := hl w (Off.refl _ _); exact ⟨a, c, e⟩
  have hlen := (hl w (Off.refl _ _)).le
  clear hl
  have HGB : Hid (∀ k, NetB (2 * k) (gvX x o (vs.take k))) := fun k => (gvX_B o (vs.take k) B).mono (by rw [List.length_take]; omega)
  have HGS : Hid (∀ k, k < vs.length → gvX x o (vs.take (k + 1)) = gaveN (gvX x o (vs.take k)) o (vs.getD k 0) ∧ gvM x o (vs.take (k + 1)) = gvM x o (vs.take k) ++ [⟨256, mirRows (inParts (gvX x o (vs.take k)) o (vs.getD k 0))⟩]) := fun k hk => by rw [take_snoc4 vs hk]; exact ⟨gvX_snoc _ _ _ _, gvM_snoc _ _ _ _⟩
  have HTA : Hid (vs.take vs.length = vs) := List.take_length
  have HVB : Hid (∀ j, j < vs.length → 0 ≤ vs.getD j 0 ∧ vs.getD j 0 < 256) := hvb
  clear hvb B
  obtain ⟨n, hn⟩ : ∃ n, vs.length = n := ⟨_, rfl⟩
  rw [hn] at hn6 hlen ⊢
  have HN : Hid (vs.length = n) := hn
  simp only [hn] at HL HGS HVB HTA
  clear hn
  have lb := N.lt
  have lbs := N.lts
  have O0 : MsO w (w.alloc (.cells #[] 36)) (gvM x o (vs.take 0)) 0 w.heap.size 0 [] [] := ⟨Own.made w 36 2 #[] 0 (by omega) rfl, trivial, by simp, rfl, by simp⟩
  have N0 : NetIn2 (w.alloc (.cells #[] 36)) b0 (gvX x o (vs.take 0)) bs := N.alloc _
  have P0 : Off (b0 :: bs) w (w.alloc (.cells #[] 36)) := (Off.refl _ _).alloc _
  go_enter Tryz.func61, Tryz.ntmps61
  go_wp2
  go_loopw [7, 8] (fun ov i wr => ∃ k g cap : Nat, ∃ us : List Value, ∃ bi : List (List Nat), ∃ cs : List Nat, k ≤ n ∧ i = .int .i64 k ∧ ov = .slice (some ⟨g, 0, none⟩) k cap ∧ MsO w wr (gvM x o (vs.take k)) k g cap us bi ∧ NetIn2 wr b0 (gvX x o (vs.take k)) cs ∧ (∀ y ∈ cs, y ∈ bs ∨ w.heap.size ≤ y) ∧ (∀ y ∈ g :: bi.flatten, y ∉ cs) ∧ Off (b0 :: bs) w wr) (fun _ i _ => n - (intOf i).toNat)
  case atStart => exact ⟨0, _, _, [], [], bs, Nat.zero_le _, rfl, rfl, O0, N0, fun y hy => .inl hy, fun y hy hc => by simp at hy; subst hy; have := lbs _ hc; omega, P0⟩
  case round =>
    clear O0 N0 P0
    obtain ⟨k, g, cap, us, bi, cs, hk, rfl, rfl, O, N, hcs, hnc, P⟩ := hrel
    by_cases hlt : k < n
    · have hk1 : (k : Int) < (n : Int) := by omega
      have hk0 : (0 : Int) ≤ (k : Int) := by omega
      have HKN : Hid (k < n) := hlt
      obtain ⟨HX1, HM1⟩ := HGS.out k hlt
      have HXS : Hid (gvX x o (vs.take (k + 1)) = gaveN (gvX x o (vs.take k)) o (vs.getD k 0)) := HX1
      have HMS : Hid (gvM x o (vs.take (k + 1)) = gvM x o (vs.take k) ++ [⟨256, mirRows (inParts (gvX x o (vs.take k)) o (vs.getD k 0))⟩]) := HM1
      have hB := HGB.out k
      have hvk := HVB.out k hlt
      have KI := spec_l6Input_net2 b0 _ cs o (vs.getD k 0) (2 * k) wr N hB (by omega) ho hvk
      have hcell : ∃ ga oa, pl = some ⟨ga, oa, none⟩ ∧ wr.cell? ⟨ga, oa + k, none⟩ = some (.int .i64 (vs.getD k 0)) := by
        obtain ⟨a, c, e, _, hA⟩ := HL.out wr P
        simp only [Value.slice.injEq] at e
        obtain ⟨rfl, _, rfl⟩ := e
        obtain ⟨b, off, e, _, hc⟩ := hA (by intro h; have := HN.out; rw [h] at this; simp at this; omega)
        exact ⟨b, off, e, hc k (by have := HN.out; omega)⟩
      obtain ⟨ga, oa, rfl, hcl⟩ := hcell
      have lO := O.lts
      have lNs := N.lts
      have lN := N.lt
      have zP := P.size
      have hgO := O.2.2.2.2
      clear hlt hk hB HX1 HM1
      generalize vs.getD k 0 = vk at *
      generalize gvX x o (vs.take k) = xk at *
      generalize gvM x o (vs.take k) = mk at *
      go_wp2_with fail
      refine KI.mono ?_
      rintro e w6 ⟨p6, c6, bm, cs6, rfl, M6, hbm, N6, hcs6, O6⟩
      have hgb0 : ∀ y ∈ g :: bi.flatten, y ≠ b0 := fun y hy h => by have := hgO y hy; omega
      have O7 := O.off O6 (fun y hy hc => by rcases List.mem_cons.1 hc with h | h; (exact hgb0 y hy h); (exact hnc y hy h))
      have P7 := P.mix4 O6 (fun y hy => by rcases List.mem_cons.1 hy with h | h; (exact .inl (by simp [h])); (rcases hcs y h with h | h; (exact .inl (by simp [h])); (exact .inr h)))
      have hcs7 : ∀ y ∈ cs6, y ∈ bs ∨ w.heap.size ≤ y := fun y hy => by rcases hcs6 y hy with h | h; (exact hcs y h); (right; omega)
      have hnc7 : ∀ y ∈ g :: bi.flatten, y ∉ cs6 := fun y hy hc => by rcases hcs6 y hc with h | h; (exact hnc y hy h); (have := lO y hy; omega)
      have hbm2 : ∀ y ∈ bm, y ∉ g :: bi.flatten := fun y hy hc => by have := (hbm y hy).1; have := lO y hc; omega
      have z6 := O6.size
      have hox := O7.1
      have lM6 := M6.lt
      have lN6 := N6.lts
      have lb6 := N6.lt
      clear O N P KI O6 hcs hnc hcs6
      go_wp2_with (at_builtin; refine wpList_append_Own rfl _ _ 54 rfl 36 iM (.agg #[.int .i64 0, .slice none 0 0]) 2 32 Tryz.underlying54 hiM hzM0 hzM1 hzM2 rfl (by decide) _ _ _ [g] rfl (Own.alloc hox _) ⟨w6.heap.size, 0, none⟩ 1 1 [.int .i64 256, .slice p6 4 c6] rfl rfl ?c1 ?c2 ?c3 ?c4 ?c5 ?_)
      case c1 => exact World.news_of_block (Blk.new _ _ _)
      case c2 => intro u hu; simp only [List.mem_cons, List.not_mem_nil, or_false] at hu; rcases hu with h | h <;> (rw [h]; rfl)
      case c3 => omega
      case c4 => have := HKN.out; unfold maxLen; omega
      case c5 => have := HKN.out; omega
      intro g3 c3 w10 hO3 hoff hg3
      have hg3q : g = g3 ∨ w6.heap.size ≤ g3 := by rcases hg3 with h | h; (left; first | exact h | simpa using h); (right; first | omega | (simp at h; omega))
      have hoffA : Off [g] w6 w10 := ((Off.refl _ _).alloc (.cells #[.int .i64 256, .slice p6 4 c6] 36)).trans hoff
      have hg3n : ∀ y, y < w6.heap.size → y ∉ g :: bi.flatten → y ≠ g3 := fun y h1 h2 e => by rcases hg3q with h | h; (exact h2 (by simp [e, h])); omega
      have O8 : MsO w w10 (mk ++ [⟨256, mirRows (inParts xk o vk)⟩]) (k + 1) g3 c3 (us ++ [.slice p6 4 c6]) (bi ++ [bm]) := MsO.push (O7.off (cs := []) ((Off.refl _ _).alloc (.cells #[.int .i64 256, .slice p6 4 c6] 36)) (by simp)) (M6.alloc _) hbm2 (fun y hy => by have := (hbm y hy).1; omega) (by simp; omega) hO3 hoff (by simpa using hg3)
      have N8 := N6.off hoffA (by simp; have := hgb0 g (by simp); omega) (fun y hy hc => by simp at hc; exact hnc7 g (by simp) (hc ▸ hy))
      have P8 := P7.mix4 hoffA (fun y hy => by simp at hy; right; rw [hy]; exact hgO g (by simp))
      have hnc8 : ∀ y ∈ g3 :: (bi ++ [bm]).flatten, y ∉ cs6 := fun y hy hc => by
        rcases List.mem_cons.1 hy with h | h
        · rcases hg3q with q | q
          · exact hnc7 y (by simp [h, q]) hc
          · have := lN6 y hc; omega
        · rw [List.flatten_append] at h
          rcases List.mem_append.1 h with h | h
          · exact hnc7 y (by simp only [List.mem_cons]; exact .inr h) hc
          · exact (hbm y (by simpa using h)).2 hc
      clear hO3 hoff hg3 O7 N6 P7 hox hoffA M6
      go_wp2
      go_roundw
      case rel => exact ⟨k + 1, g3, c3, _, _, cs6, HKN.out, by go_num, rfl, by rw [HMS.out]; exact O8, by rw [HXS.out]; exact N8, hcs7, hnc8, P8⟩
      case measure => have := HKN.out; simp [intOf]; omega
    · obtain rfl : k = n := by omega
      rw [HTA.out] at O N
      go_wp2
      go_ret
      exact ⟨g, cap, us, bi, cs, rfl, O, N, hcs, hnc, P⟩
set_option maxHeartbeats 8000000 in
set_option maxRecDepth 100000 in
theorem spec_InputMany (vv : Value) (x : MNet) (oo : Int) (lv : Value) (vs : List Int) (w : World) (hv : RdNet w vv x) (hx : Fit x) (hl : Reads w .i64 lv vs) :
    Calls Tryz.prog 21 #[vv, .int .i64 oo, lv] w fun e w' => OutMany w w' (manyR x oo vs) e := by
  by_cases hc : manyC x oo vs = 0
  · have KV := fun W (hb : Below w.heap.size w W) => spec_l5View 256 lv vs W (by omega) (by omega) (hl.below hb)
    have KC := fun W (hb : Below w.heap.size w W) => spec_l4CopyT vv x W (hv.below hb) hx
    obtain ⟨p0, c0, p1, c1, p2, c2, rfl, g0, g1, g2⟩ := hv
    have hlen := hl.le
    have HLV : Hid (∀ W, Below w.heap.size w W → Reads W .i64 lv vs) := fun W hb => hl.below hb
    obtain ⟨pl, cl, rfl⟩ : ∃ p c, lv = .slice p vs.length c := by obtain ⟨a, c, e, _⟩ := hl; exact ⟨a, c, e⟩
    have B0 : Below w.heap.size w ((w.alloc (.cells #[.slice p0 x.xTape.length c0, .slice p1 x.xUsed.length c1, .int .i64 x.xSent, .slice p2 x.xHeard.length c2, .int .i64 x.xCheat.xWho, .int .i64 x.xCheat.xAt, .int .i64 x.xCheat.xBy, .bool x.xCheat.xCry, .bool x.xQuarrel.xSome, .int .i64 x.xQuarrel.xFrom, .int .i64 x.xQuarrel.xCheck, .int .i64 x.xQuarrel.xTo, .int .i64 x.xQuarrel.xTold, .int .i64 x.xQuarrel.xHeard, .int .i64 x.xQuarrel.xOther, .int .i64 x.xQuarrel.xVowed] 41)).alloc (.cells #[.int .i64 0, .slice none 0 0, .slice none 0 0, .slice none 0 0, .int .i64 0, .slice none 0 0, .int .i64 0, .int .i64 0, .int .i64 0, .bool false, .bool false, .int .i64 0, .int .i64 0, .int .i64 0, .int .i64 0, .int .i64 0, .int .i64 0, .int .i64 0] 56)) := (by repeat (first | exact Below.refl _ _ | refine Below.drew ?_ | refine below_drewN ?_ _ | refine Below.setCell ?_ (by first | omega | (simp; done) | (simp; omega)) _ | refine Below.alloc ?_ (by first | omega | (simp; done) | (simp; omega)) _))
    have X0 : Blk ((w.alloc (.cells #[.slice p0 x.xTape.length c0, .slice p1 x.xUsed.length c1, .int .i64 x.xSent, .slice p2 x.xHeard.length c2, .int .i64 x.xCheat.xWho, .int .i64 x.xCheat.xAt, .int .i64 x.xCheat.xBy, .bool x.xCheat.xCry, .bool x.xQuarrel.xSome, .int .i64 x.xQuarrel.xFrom, .int .i64 x.xQuarrel.xCheck, .int .i64 x.xQuarrel.xTo, .int .i64 x.xQuarrel.xTold, .int .i64 x.xQuarrel.xHeard, .int .i64 x.xQuarrel.xOther, .int .i64 x.xQuarrel.xVowed] 41)).alloc (.cells #[.int .i64 0, .slice none 0 0, .slice none 0 0, .slice none 0 0, .int .i64 0, .slice none 0 0, .int .i64 0, .int .i64 0, .int .i64 0, .bool false, .bool false, .int .i64 0, .int .i64 0, .int .i64 0, .int .i64 0, .int .i64 0, .int .i64 0, .int .i64 0] 56)) w.heap.size 41 #[.slice p0 x.xTape.length c0, .slice p1 x.xUsed.length c1, .int .i64 x.xSent, .slice p2 x.xHeard.length c2, .int .i64 x.xCheat.xWho, .int .i64 x.xCheat.xAt, .int .i64 x.xCheat.xBy, .bool x.xCheat.xCry, .bool x.xQuarrel.xSome, .int .i64 x.xQuarrel.xFrom, .int .i64 x.xQuarrel.xCheck, .int .i64 x.xQuarrel.xTo, .int .i64 x.xQuarrel.xTold, .int .i64 x.xQuarrel.xHeard, .int .i64 x.xQuarrel.xOther, .int .i64 x.xQuarrel.xVowed] := (Blk.new w _ _).alloc _
    have Y0 : Blk ((w.alloc (.cells #[.slice p0 x.xTape.length c0, .slice p1 x.xUsed.length c1, .int .i64 x.xSent, .slice p2 x.xHeard.length c2, .int .i64 x.xCheat.xWho, .int .i64 x.xCheat.xAt, .int .i64 x.xCheat.xBy, .bool x.xCheat.xCry, .bool x.xQuarrel.xSome, .int .i64 x.xQuarrel.xFrom, .int .i64 x.xQuarrel.xCheck, .int .i64 x.xQuarrel.xTo, .int .i64 x.xQuarrel.xTold, .int .i64 x.xQuarrel.xHeard, .int .i64 x.xQuarrel.xOther, .int .i64 x.xQuarrel.xVowed] 41)).alloc (.cells #[.int .i64 0, .slice none 0 0, .slice none 0 0, .slice none 0 0, .int .i64 0, .slice none 0 0, .int .i64 0, .int .i64 0, .int .i64 0, .bool false, .bool false, .int .i64 0, .int .i64 0, .int .i64 0, .int .i64 0, .int .i64 0, .int .i64 0, .int .i64 0] 56)) (w.heap.size + 1) 56 #[.int .i64 0, .slice none 0 0, .slice none 0 0, .slice none 0 0, .int .i64 0, .slice none 0 0, .int .i64 0, .int .i64 0, .int .i64 0, .bool false, .bool false, .int .i64 0, .int .i64 0, .int .i64 0, .int .i64 0, .int .i64 0, .int .i64 0, .int .i64 0] := by simpa using Blk.new (w.alloc (.cells #[.slice p0 x.xTape.length c0, .slice p1 x.xUsed.length c1, .int .i64 x.xSent, .slice p2 x.xHeard.length c2, .int .i64 x.xCheat.xWho, .int .i64 x.xCheat.xAt, .int .i64 x.xCheat.xBy, .bool x.xCheat.xCry, .bool x.xQuarrel.xSome, .int .i64 x.xQuarrel.xFrom, .int .i64 x.xQuarrel.xCheck, .int .i64 x.xQuarrel.xTo, .int .i64 x.xQuarrel.xTold, .int .i64 x.xQuarrel.xHeard, .int .i64 x.xQuarrel.xOther, .int .i64 x.xQuarrel.xVowed] 41)) 56 #[.int .i64 0, .slice none 0 0, .slice none 0 0, .slice none 0 0, .int .i64 0, .slice none 0 0, .int .i64 0, .int .i64 0, .int .i64 0, .bool false, .bool false, .int .i64 0, .int .i64 0, .int .i64 0, .int .i64 0, .int .i64 0, .int .i64 0, .int .i64 0]
    have sz0 : ((w.alloc (.cells #[.slice p0 x.xTape.length c0, .slice p1 x.xUsed.length c1, .int .i64 x.xSent, .slice p2 x.xHeard.length c2, .int .i64 x.xCheat.xWho, .int .i64 x.xCheat.xAt, .int .i64 x.xCheat.xBy, .bool x.xCheat.xCry, .bool x.xQuarrel.xSome, .int .i64 x.xQuarrel.xFrom, .int .i64 x.xQuarrel.xCheck, .int .i64 x.xQuarrel.xTo, .int .i64 x.xQuarrel.xTold, .int .i64 x.xQuarrel.xHeard, .int .i64 x.xQuarrel.xOther, .int .i64 x.xQuarrel.xVowed] 41)).alloc (.cells #[.int .i64 0, .slice none 0 0, .slice none 0 0, .slice none 0 0, .int .i64 0, .slice none 0 0, .int .i64 0, .int .i64 0, .int .i64 0, .bool false, .bool false, .int .i64 0, .int .i64 0, .int .i64 0, .int .i64 0, .int .i64 0, .int .i64 0, .int .i64 0] 56)).heap.size = w.heap.size + 2 := by simp
    have KO := spec_l6Asked w.heap.size x p0 p1 p2 c0 c1 c2 oo _ X0 (g0.below B0) (g1.below B0) (g2.below B0)
    clear hl g0 g1 g2
    have k0 : ownC x oo = 0 := by
      by_cases k : ownC x oo = 0
      · exact k
      · rw [manyC_own k] at hc; exact absurd hc k
    have k1 : vs.length ≤ 60 := by
      by_cases k : vs.length ≤ 60
      · exact k
      · rw [manyC_many k0 k] at hc; cases hc
    have k2 : elC 256 vs = 0 := by rw [manyC_el k0 k1] at hc; exact hc
    have hke : okE 256 vs = true := by
      unfold elC at k2
      by_cases h : okE 256 vs = true
      · exact h
      · rw [if_neg h] at k2; cases k2
    have hkv : okV 256 vs = true := by rw [okV_okE]; exact hke
    rw [hkv] at KV
    rw [k0] at KO
    have hvb := (okE_iff 256 vs).1 hke
    obtain ⟨zn, zo⟩ := ownC_zero k0
    obtain ⟨o, rfl⟩ := Int.eq_ofNat_of_zero_le zo.1
    have HRES : Hid (manyR x o vs = _) := manyR_ok hc
    have NB := NetB.of zn hx
    have hH0 : 0 < x.xHeard.length := by rw [NB.h4]; omega
    have ho4 : o < 4 := by omega
    have KM := fun W b bs hN hl2 => spec_l6Many b x bs o (.slice pl vs.length cl) vs W hN NB ho4 k1 hvb hl2
    have hml : (gvM x o vs).length = vs.length := gvM_len o vs x
    obtain ⟨n, hn⟩ : ∃ n, vs.length = n := ⟨_, rfl⟩
    rw [hn] at k1 hml hlen ⊢
    simp only [hn] at KV KM HLV
    have HML : Hid ((gvM x o vs).length = n) := hml
    clear hc k0 k2 hke hkv hvb zn zo hml hn
    generalize gvM x o vs = ms at *
    generalize gvX x o vs = x2 at *
    have hgt : decide (60 < (n : Int)) = false := by simp; omega
    go_enter Tryz.func21, Tryz.ntmps21
    go_wp2_with fail
    refine KO.mono ?_
    rintro e w' ⟨rfl, rfl⟩
    clear KO
    go_wp2_with fail
    refine (KV _ B0).mono ?_
    rintro e w' ⟨rfl, rfl⟩
    clear KV
    go_wp2_with (refine wpList_load_blk rfl 41 _ rfl w.heap.size rfl X0 Tryz.underlying41 rfl (by kernel_rfl) ?_)
    refine (KC _ B0).mono ?_
    rintro e w1b ⟨q0, d0, q1, d1, q2, d2, bt, b1, b2, rfl, T1, U1, H1, j01, j02, j12, f0, f1, f2, hb1⟩
    have sz1 := hb1.size
    rw [sz0] at sz1
    have Y2 := Y0.keep hb1
    have B2 := B0.trans (hb1.mono B0.size)
    have fw0 := fun y hy => Nat.le_trans (Nat.le_of_eq sz0.symm) (f0 y hy)
    have fw1 := fun y hy => Nat.le_trans (Nat.le_of_eq sz0.symm) (f1 y hy)
    have fw2 := fun y hy => Nat.le_trans (Nat.le_of_eq sz0.symm) (f2 y hy)
    clear X0 Y0 B0 hb1 f0 f1 f2 KC sz0
    have Zn := Blk.new w1b 56 #[.int .i64 0, .slice none 0 0, .slice none 0 0, .slice none 0 0, .int .i64 0, .slice none 0 0, .int .i64 0, .int .i64 0, .int .i64 0, .bool false, .bool false, .int .i64 0, .int .i64 0, .int .i64 0, .int .i64 0, .int .i64 0, .int .i64 0, .int .i64 0]
    go_wp2_with (refine wpList_store_blk rfl 56 _ _ rfl w1b.heap.size #[.int .i64 0, .slice none 0 0, .slice q0 x.xTape.length d0, .slice q1 x.xUsed.length d1, .int .i64 x.xSent, .slice q2 x.xHeard.length d2, .int .i64 x.xCheat.xWho, .int .i64 x.xCheat.xAt, .int .i64 x.xCheat.xBy, .bool x.xCheat.xCry, .bool x.xQuarrel.xSome, .int .i64 x.xQuarrel.xFrom, .int .i64 x.xQuarrel.xCheck, .int .i64 x.xQuarrel.xTo, .int .i64 x.xQuarrel.xTold, .int .i64 x.xQuarrel.xHeard, .int .i64 x.xQuarrel.xOther, .int .i64 x.xQuarrel.xVowed] rfl rfl Zn rfl (by kernel_rfl) (by kernel_rfl) ?_; intro w2 Z2 O2)
    have O2' : Off [w1b.heap.size] w1b w2 := ((Off.refl _ _).alloc _).trans O2
    have N2 : NetIn2 w2 w1b.heap.size x (bt ++ (b1 ++ b2)) := NetIn2.of Z2 (T1.off O2' (fun y hy hm => by have := T1.lt y hy; simp at hm; omega)) (U1.off O2' (fun y hy hm => by have := U1.lt y hy; simp at hm; omega)) (H1.off O2' (fun y hy hm => by have := H1.lt y hy; simp at hm; omega)) (fun hm => Nat.lt_irrefl _ (T1.lt _ hm)) (fun hm => Nat.lt_irrefl _ (U1.lt _ hm)) (fun hm => Nat.lt_irrefl _ (H1.lt _ hm)) j01 j02 j12 hH0
    have Y3 := Y2.off O2' (by simp; omega)
    have B3 : Below w.heap.size w w2 := B2.trans (O2'.toBelow B2.size (by have := B2.size; simp; omega))
    have hbs : ∀ y ∈ bt ++ (b1 ++ b2), w.heap.size + 2 ≤ y := fun y hy => by rcases List.mem_append.1 hy with h | h; (exact fw0 y h); (rcases List.mem_append.1 h with h | h; (exact fw1 y h); (exact fw2 y h))
    clear Zn T1 U1 H1 O2 O2' Y2 B2 fw0 fw1 fw2 Z2 j01 j02 j12
    generalize bt ++ (b1 ++ b2) = bs at *
    generalize w1b.heap.size = gN at *
    have hgb : ∀ V, Off (gN :: bs) w2 V → Below w.heap.size w V := fun V h => B3.trans (h.toBelow B3.size (fun y hy => by rcases List.mem_cons.1 hy with h | h; omega; (have := hbs y h; omega)))
    go_wp2_with fail
    refine (KM _ gN bs N2 (fun V h => HLV.out V (hgb V h))).mono ?_
    rintro e w4 ⟨g, c, us, bi, cs, rfl, OM, N4, hcs, hnc, O4⟩
    have Y4 := Y3.off O4 (fun hm => by rcases List.mem_cons.1 hm with h | h; omega; (have := hbs _ h; omega))
    have B4 := hgb _ O4
    have ly3 := Y3.lt
    have lN4 := N4.lt
    have lN4s := N4.lts
    have hcs2 : ∀ y ∈ cs, w.heap.size + 1 < y := fun y hy => by rcases hcs y hy with h | h; (have := hbs y h; omega); omega
    have OO : OwMirrorS w4 (.slice (some ⟨g, 0, none⟩) ms.length c) ms (g :: bi.flatten) := ⟨us, [g], bi, by rw [HML.out]; exact OM.1, OM.2.1, rfl, OM.2.2.1⟩
    have hgw : ∀ y ∈ g :: bi.flatten, w.heap.size + 1 < y := fun y hy => by have := OM.2.2.2.2 y hy; omega
    have cz := N4.zero
    have fz := N4.cells.2
    have hgN0 : ∀ y ∈ g :: bi.flatten, y ≠ gN := fun y hy h => by have := OM.2.2.2.2 y hy; have := N2.lt; omega
    obtain ⟨q0, q1, gH, d0, d1, d2, bt, b1, b2, Z5, T5, U5, H5, n0, n1, n2, k01, k02, k12, rfl⟩ := NetIn2.mirrors (g := g) (n := n) (c := c) N4
    have o5 : Off [gN] w4 (w4.setCell ⟨gN, 1, none⟩ (.slice (some ⟨g, 0, none⟩) n c)) := (Off.refl _ _).setCell _ _ (.inl (by simp))
    have Y5 := Y4.off o5 (by simp; omega)
    have B5 := B4.trans (o5.toBelow B4.size (by simp; omega))
    have T6 := T5.off o5 (fun y hy hm => by simp at hm; exact n0 (hm ▸ hy))
    have U6 := U5.off o5 (fun y hy hm => by simp at hm; exact n1 (hm ▸ hy))
    have H6 := H5.off o5 (fun y hy hm => by simp at hm; exact n2 (hm ▸ hy))
    have OO6 := OO.off o5 (fun y hy hm => by simp at hm; exact hgN0 y hy hm)
    clear Y4 B4 T5 U5 H5 OO N4 KM N2 Y3 B3 O4 OM hgb
    go_wp2_with (first | (refine wpList_load_blk rfl 56 _ rfl gN rfl Z5 Tryz.underlying56 rfl (by kernel_rfl) ?_) | (refine wpList_store_blk rfl 56 _ _ rfl (w.heap.size + 1) (#[.int .i64 0, .slice (some ⟨g, 0, none⟩) n c, .slice q0 x2.xTape.length d0, .slice q1 x2.xUsed.length d1, .int .i64 x2.xSent, .slice (some ⟨gH, 0, none⟩) x2.xHeard.length d2, .int .i64 x2.xCheat.xWho, .int .i64 x2.xCheat.xAt, .int .i64 x2.xCheat.xBy, .bool x2.xCheat.xCry, .bool x2.xQuarrel.xSome, .int .i64 x2.xQuarrel.xFrom, .int .i64 x2.xQuarrel.xCheck, .int .i64 x2.xQuarrel.xTo, .int .i64 x2.xQuarrel.xTold, .int .i64 x2.xQuarrel.xHeard, .int .i64 x2.xQuarrel.xOther, .int .i64 x2.xQuarrel.xVowed]) rfl rfl Y5 rfl (by kernel_rfl) (by kernel_rfl) ?_; intro w9 Y9 O9))
    have nn : ∀ y, w.heap.size + 1 < y → y ∉ [w.heap.size + 1] := fun y h hm => by simp at hm; omega
    exact bodyPost_ret (v := .agg (#[.int .i64 0, .slice (some ⟨g, 0, none⟩) n c, .slice q0 x2.xTape.length d0, .slice q1 x2.xUsed.length d1, .int .i64 x2.xSent, .slice (some ⟨gH, 0, none⟩) x2.xHeard.length d2, .int .i64 x2.xCheat.xWho, .int .i64 x2.xCheat.xAt, .int .i64 x2.xCheat.xBy, .bool x2.xCheat.xCry, .bool x2.xQuarrel.xSome, .int .i64 x2.xQuarrel.xFrom, .int .i64 x2.xQuarrel.xCheck, .int .i64 x2.xQuarrel.xTo, .int .i64 x2.xQuarrel.xTold, .int .i64 x2.xQuarrel.xHeard, .int .i64 x2.xQuarrel.xOther, .int .i64 x2.xQuarrel.xVowed])) (results_blk Tryz.results21 rfl Y9 Tryz.underlying56 rfl (by kernel_rfl)) rfl (by rw [HRES.out]; have := OutMany.of4 (w := w) (W' := w9) (x := x2) (ms := ms) (pm := some ⟨g, 0, none⟩) (cm := c) 0 (T6.off O9 (fun y hy => nn y (hcs2 y (by simp [hy])))) (U6.off O9 (fun y hy => nn y (hcs2 y (by simp [hy])))) (H6.off O9 (fun y hy => nn y (hcs2 y (by simp [hy])))) k01 k02 k12 (fun y hy => by have := hcs2 y hy; omega) (OO6.off O9 (fun y hy => nn y (hgw y hy))) (fun y hy => ⟨by have := hgw y hy; omega, hnc y hy⟩) (B5.trans (O9.toBelow B5.size (by simp))); rw [HML.out] at this; exact this)
  · rw [manyR_bad hc]
    exact spec_InputMany_code vv x oo lv vs w hv hl hc
end Go.Proofs.YtbmemdgeohnpnalGreat
