/-
  Draws of chapter 5: parts and mirrors without a fault; two lists of mirrors that grow side by side; rows of products.
-/
import Derived.Test.YtepobckhfodngabGreatDraw3b
import Derived.Test.YtepobckhfodngabGreatLawM
import Derived.Test.YtepobckhfodngabGreatMrS
namespace Go.Proofs.YtepobckhfodngabGreat
open Go.ChangeShapes Go.WideShapes Go.ChangeAt Go.RowKit
set_option linter.unusedVariables false

def ElQ (q : Int) (xs : List Int) : Prop := ∀ z ∈ xs, 1 ≤ q → 0 ≤ z ∧ z < q
theorem ElQ.okV {q : Int} {xs : List Int} (h : ElQ q xs) (hq : 1 ≤ q) : okV q xs = true := by
  unfold Go.Proofs.YtepobckhfodngabGreat.okV
  rw [List.all_eq_true]
  intro z hz
  simpa using h z hz hq
set_option maxHeartbeats 2000000 in
theorem spec_l3PartsB (b : Nat) (a : Option Addr) (cap : Nat) (zs : List Int) (k : Nat) (q : Int) (w : World) (hs : Src w b a cap zs k) (hk : k ≤ 1000000000) (hq : q ≤ 256) :
    Calls Tryz.prog 55 #[.pointer (some ⟨b, 0, none⟩), .int .i64 q] w fun e w' => ∃ v xs bs, e = .returned v ∧ IntsT w' v xs bs ∧ xs.length = 4 ∧ ElQ q xs ∧ (∀ y ∈ bs, w.heap.size ≤ y) ∧ Src w' b a cap zs (k + 4) ∧ Off [b] w w' := by
  obtain ⟨i1, gi, gz0, gz1, gz2⟩ := info_parts Tryz.infoI
  have I0 : IntsT (w.alloc (.cells #[] 2)) (.slice (some ⟨w.heap.size, 0, none⟩) 0 0) [] [w.heap.size] := Own.made w 2 1 #[] 0 (by omega) rfl
  have S0 := hs.alloc (.cells #[] 2)
  have O0 : Off [b] w (w.alloc (.cells #[] 2)) := (Off.refl _ _).alloc _
  have hbl := hs.blk.lt
  clear hs
  go_enter Tryz.func55, Tryz.ntmps55
  go_wp2
  go_loopw [5, 6] (fun o i wr => ∃ n : Nat, ∃ xs : List Int, ∃ bs : List Nat, n ≤ 4 ∧ i = .int .i64 n ∧ xs.length = n ∧ ElQ q xs ∧ IntsT wr o xs bs ∧ (∀ y ∈ bs, w.heap.size ≤ y) ∧ Src wr b a cap zs (k + n) ∧ Off [b] w wr) (fun _ i _ => 4 - (intOf i).toNat)
  case atStart => exact ⟨0, [], _, Nat.zero_le _, rfl, rfl, (fun z hz => by cases hz), I0, by simp, S0, O0⟩
  case round =>
    clear I0 S0 O0
    obtain ⟨n, xs, bs, hn, rfl, hxl, hEQ, hI, hbs, hS, hO⟩ := hrel
    have HE : Hid (ElQ q xs) := hEQ
    clear hEQ
    obtain ⟨po, co, rfl⟩ := Own.value hI
    by_cases hlt : n < 4
    · have hi : (n : Int) < 4 := by omega
      have HL : Hid (xs.length = n) := hxl
      go_wp2_with fail
      refine (spec_l1Next b a cap zs (k + n) q _ hS (by omega) (by omega)).mono ?_
      rintro e w1 ⟨r, rfl, hr, hS1, hO1⟩
      have hI1 : Own w1 2 1 (.slice po xs.length co) xs.length (xs.map (Value.int .i64)) bs := Own.off hI hO1 (fun y hy hm => by have := hbs y hy; simp at hm; omega)
      have hO2 := hO.trans hO1
      have lt1 := Own.lt hI1
      have hz := hO2.size
      rw [hxl] at hI1 ⊢
      have HR : Hid (ElQ q (xs ++ [r])) := fun z hz h1 => by
        rcases List.mem_append.1 hz with h | h
        · exact HE.out z h h1
        · simp at h; subst h; exact hr.1 h1
      clear hI hS hO hO1 hxl hr
      go_wp2_with (at_builtin; refine wpList_append_Own rfl _ _ 27 rfl 2 i1 (.int .i64 0) 1 8 Tryz.underlying27 gi gz0 gz1 gz2 rfl (by decide) _ _ _ bs rfl (Own.alloc hI1 _) ⟨w1.heap.size, 0, none⟩ 1 1 [.int .i64 r] rfl rfl ?c1 ?c2 ?c3 ?c4 ?c5 ?_)
      case c1 => exact one_new (Blk.new _ _ _)
      case c2 => intro u hu; simp at hu; subst hu; rfl
      case c3 => omega
      case c4 => unfold maxLen; omega
      case c5 => omega
      intro g c w3 hO3 hoff hg3
      have hI3 : IntsT w3 (.slice (some ⟨g, 0, none⟩) (n + 1) c) (xs ++ [r]) [g] := by
        unfold IntsT
        rw [List.map_append, List.length_append, HL.out]
        exact hO3
      have hb3 : ∀ y ∈ [g], w.heap.size ≤ y := by
        intro y hy
        simp at hy
        subst hy
        rcases hg3 with h | h
        · exact hbs y (by rw [h]; simp)
        · (try simp at h); omega
      have hS3 : Src w3 b a cap zs (k + (n + 1)) := (hS1.alloc (.cells #[.int .i64 r] 2)).off hoff (fun y hy => by have := hbs y hy; omega)
      have hO4 : Off [b] w w3 := (hO2.alloc (.cells #[.int .i64 r] 2)).fresh hoff hbs
      clear hO3 hoff hI1 hS1 hO2 lt1
      go_wp2
      go_roundw
      case rel => exact ⟨n + 1, xs ++ [r], [g], by omega, by go_num, by simp [HL.out], HR.out, hI3, hb3, hS3, hO4⟩
      case measure => simp [intOf]; omega
    · obtain rfl : n = 4 := by omega
      go_wp2
      go_ret
      exact ⟨_, xs, bs, rfl, hI, hxl, HE.out, hbs, hS, hO⟩
set_option maxHeartbeats 2000000 in
theorem spec_l3DrawB (b : Nat) (a : Option Addr) (cap : Nat) (zs : List Int) (k : Nat) (q : Int) (w : World) (hs : Src w b a cap zs k) (hk : k ≤ 1000000000) (hq : q ≤ 256) :
    Calls Tryz.prog 30 #[.pointer (some ⟨b, 0, none⟩), .int .i64 q] w fun e w' => ∃ (p : Option Addr) (c : Nat) (xs : List Int) (bs : List Nat), e = .returned (.agg #[.int .i64 q, .slice p 4 c]) ∧ Mat w' (.slice p 4 c) (mirRows xs) bs ∧ xs.length = 4 ∧ ElQ q xs ∧ (∀ y ∈ bs, w.heap.size ≤ y) ∧ Src w' b a cap zs (k + 4) ∧ Off [b] w w' := by
  have Y0 := Blk.new w 38 #[.int .i64 0, .slice none 0 0]
  have S0 := hs.alloc (.cells #[.int .i64 0, .slice none 0 0] 38)
  have O0 : Off [b] w (w.alloc (.cells #[.int .i64 0, .slice none 0 0] 38)) := (Off.refl _ _).alloc _
  have hbl := hs.blk.lt
  clear hs
  go_enter Tryz.func30, Tryz.ntmps30
  go_wp2_with fail
  refine (spec_l3PartsB b a cap zs k q _ S0 hk hq).mono ?_
  rintro e w1 ⟨v, xs, bs, rfl, hI, hl4, hEQ, hf1, s1, o1⟩
  have HE : Hid (ElQ q xs) := hEQ
  clear hEQ
  have Y1 := Y0.off o1 (by simp; omega)
  have O1 := O0.trans o1
  have HL : Hid (xs.length = 4) := hl4
  go_wp2_with fail
  refine (spec_l3Of q v xs _ hI.ints.reads hl4).mono ?_
  rintro e w2 ⟨u, b2, rfl, hT, hf2, hb2⟩
  obtain ⟨p, c, rfl, hM⟩ := hT
  have hM2 : Mat w2 (.slice p 4 c) (mirRows xs) b2 := hM
  have hlm : (mirRows xs).length = 4 := by simp [mirRows]
  dsimp only
  rw [hlm]
  have Y2 := Y1.keep hb2
  have yl := Y1.lt
  have s2 := s1.keep hb2
  have O2 : Off [b] w w2 := O1.trans (Off.ofBelow hb2)
  have hz := O1.size
  have ya := Y2.at.1
  have yb := Y2.at.2
  have OO : ∀ W, Off [w.heap.size] w2 W → (∃ (p' : Option Addr) (c' : Nat) (xs : List Int) (bs : List Nat), Ending.returned (.agg #[.int .i64 q, .slice p 4 c]) = .returned (.agg #[.int .i64 q, .slice p' 4 c']) ∧ Mat W (.slice p' 4 c') (mirRows xs) bs ∧ xs.length = 4 ∧ ElQ q xs ∧ (∀ y ∈ bs, w.heap.size ≤ y) ∧ Src W b a cap zs (k + 4) ∧ Off [b] w W) := fun W OO => ⟨p, c, xs, b2, rfl, hM2.off OO (fun y hy hm => by have := hf2 y hy; simp at hm; omega), HL.out, HE.out, fun y hy => by have := hf2 y hy; omega, s2.off OO (fun y hy => by simp at hy; omega), O2.fresh OO (fun y hy => by simp at hy; omega)⟩
  clear hM hlm hM2 Y0 Y1 Y2 hI hb2 hf2 hf1 s1 s2 O0 O1 O2 S0 o1
  go_wp2
  exact bodyPost_ret (v := .agg #[.int .i64 q, .slice p 4 c]) (by simp [results, Tryz.results30, go_sem, ya]) rfl (OO _ (((Off.refl _ _).setCell _ _ (by simp)).setCell _ _ (by simp)))

/-- two lists of mirrors, each in a box of its own -/
structure Duo (n0 : Nat) (W : World) (v v' : Value) (gx gy : Nat) (xs ys : List MMirror) (us us' : List Value) (bi bi' : List (List Nat)) : Prop where
  ox : Own W 38 2 v xs.length (msC us xs) [gx]
  oy : Own W 38 2 v' ys.length (msC us' ys) [gy]
  rx : MsR W us xs bi
  ry : MsR W us' ys bi'
  nxy : gx ≠ gy
  nx : ∀ z, z ∈ bi.flatten ∨ z ∈ bi'.flatten → z ≠ gx ∧ z ≠ gy ∧ n0 ≤ z
  fx : n0 ≤ gx ∧ n0 ≤ gy
theorem Duo.swap {n0 : Nat} {W : World} {v v' : Value} {gx gy : Nat} {xs ys : List MMirror} {us us' : List Value} {bi bi' : List (List Nat)} (h : Duo n0 W v v' gx gy xs ys us us' bi bi') : Duo n0 W v' v gy gx ys xs us' us bi' bi :=
  ⟨h.oy, h.ox, h.ry, h.rx, h.nxy.symm, fun z hz => by have := h.nx z hz.symm; exact ⟨this.2.1, this.1, this.2.2⟩, h.fx.2, h.fx.1⟩
theorem Duo.off {n0 : Nat} {W W' : World} {v v' : Value} {gx gy : Nat} {xs ys : List MMirror} {us us' : List Value} {bi bi' : List (List Nat)} {cs : List Nat} (h : Duo n0 W v v' gx gy xs ys us us' bi bi') (o : Off cs W W') (hc : ∀ z ∈ cs, z < n0 ∨ W.heap.size ≤ z) : Duo n0 W' v v' gx gy xs ys us us' bi bi' := by
  have l1 := Own.lt h.ox gx (by simp)
  have l2 := Own.lt h.oy gy (by simp)
  have l3 := h.rx.lt
  have l4 := h.ry.lt
  exact ⟨Own.off h.ox o (fun y hy hm => by simp at hy; subst hy; have := h.fx.1; rcases hc y hm with k | k <;> omega), Own.off h.oy o (fun y hy hm => by simp at hy; subst hy; have := h.fx.2; rcases hc y hm with k | k <;> omega), h.rx.off o (fun y hy hm => by have := (h.nx y (.inl hy)).2.2; have := l3 y hy; rcases hc y hm with k | k <;> omega), h.ry.off o (fun y hy hm => by have := (h.nx y (.inr hy)).2.2; have := l4 y hy; rcases hc y hm with k | k <;> omega), h.nxy, h.nx, h.fx⟩
theorem Duo.lts {n0 : Nat} {W : World} {v v' : Value} {gx gy : Nat} {xs ys : List MMirror} {us us' : List Value} {bi bi' : List (List Nat)} (h : Duo n0 W v v' gx gy xs ys us us' bi bi') : gx < W.heap.size ∧ gy < W.heap.size ∧ ∀ z, z ∈ bi.flatten ∨ z ∈ bi'.flatten → z < W.heap.size :=
  ⟨Own.lt h.ox gx (by simp), Own.lt h.oy gy (by simp), fun z hz => hz.elim (h.rx.lt z) (h.ry.lt z)⟩
theorem Duo.pushX {n0 L : Nat} {W w3 : World} {v v' u v3 : Value} {gx gy g3 : Nat} {xs ys : List MMirror} {us us' : List Value} {bi bi' : List (List Nat)} {bm : List Nat} (h : Duo n0 W v v' gx gy xs ys us us' bi bi') (x : MMirror) (M : Mat W u x.xViews bm) (hL : gx < L ∧ gy < L ∧ ∀ z, z ∈ bi.flatten ∨ z ∈ bi'.flatten → z < L) (hbm : ∀ z ∈ bm, L ≤ z) (hn : n0 ≤ L)
    (o3 : Own w3 38 2 v3 (xs.length + 1) (msC us xs ++ [.int .i64 x.xQ, u]) [g3]) (off : Off [gx] W w3) (hg : gx = g3 ∨ W.heap.size ≤ g3) : Duo n0 w3 v3 v' g3 gy (xs ++ [x]) ys (us ++ [u]) us' (bi ++ [bm]) bi' := by
  have lW := h.lts
  have lM := M.lt
  have g3f : g3 = gx ∨ W.heap.size ≤ g3 := hg.imp (fun e => e.symm) id
  have fl : ∀ z, z ∈ (bi ++ [bm]).flatten → z ∈ bi.flatten ∨ z ∈ bm := fun z hz => by simpa using hz
  refine ⟨?_, Own.off h.oy off (fun y hy hm => by simp at hy hm; subst hy; exact h.nxy hm.symm), ?_, h.ry.off off (fun y hy hm => by simp at hm; exact (h.nx y (.inr hy)).1 hm), ?_, ?_, ?_, h.fx.2⟩
  · rw [List.length_append, msC_snoc u x h.rx.len.1]; exact o3
  · exact MsR.snoc (h.rx.off off (fun y hy hm => by simp at hm; exact (h.nx y (.inl hy)).1 hm)) (M.off off (fun y hy hm => by simp at hm; have := hbm y hy; omega))
  · rcases g3f with e | e
    · rw [e]; exact h.nxy
    · omega
  · intro z hz
    have hz' : (z ∈ bi.flatten ∨ z ∈ bi'.flatten) ∨ z ∈ bm := by
      rcases hz with k | k
      · exact (fl z k).imp .inl id
      · exact .inl (.inr k)
    rcases hz' with k | k
    · have a := h.nx z k
      have b := lW.2.2 z k
      refine ⟨?_, a.2.1, a.2.2⟩
      rcases g3f with e | e
      · rw [e]; exact a.1
      · omega
    · have a := hbm z k
      have b := lM z k
      refine ⟨?_, by omega, by omega⟩
      rcases g3f with e | e
      · omega
      · omega
  · have := h.fx.1
    rcases g3f with e | e
    · omega
    · have := lW.1; omega
/-- a list of mirrors that is read, and stays so through what is written to older blocks -/
def StS (n0 : Nat) (w' : World) (v : Value) (xs : List MMirror) : Prop := ∀ V cs, Off cs w' V → (∀ z ∈ cs, z < n0) → RdMirrorS V v xs
theorem StS.more {n0 n1 : Nat} {W V : World} {v : Value} {xs : List MMirror} {bs : List Nat} (h : StS n0 W v xs) (o : Off bs W V) (hb : ∀ z ∈ bs, z < n0) (hn : n1 ≤ n0) : StS n1 V v xs := fun V' cs o' hc => h V' (bs ++ cs) ((o.mono (fun y hy => List.mem_append_left _ hy)).trans (o'.mono (fun y hy => List.mem_append_right _ hy))) (fun z hz => by
  rcases List.mem_append.1 hz with k | k
  · exact hb z k
  · have := hc z k; omega)
theorem StS.rd {n0 : Nat} {W : World} {v : Value} {xs : List MMirror} (h : StS n0 W v xs) : RdMirrorS W v xs := h W [] (Off.refl _ _) (fun z hz => by cases hz)
/-- its box is none of the older ones -/
theorem StS.ge {n0 g oo n c : Nat} {W : World} {xs : List MMirror} (h : StS n0 W (.slice (some ⟨g, oo, none⟩) n c) xs) (hx : 0 < xs.length) : n0 ≤ g := by
  by_cases hg : g < n0
  · exfalso
    obtain ⟨a, cap, e, hm, hA⟩ := h.rd
    simp only [Value.slice.injEq] at e
    obtain ⟨rfl, rfl, rfl⟩ := e
    obtain ⟨b, off, e, hlt, hc⟩ := hA (by intro h; rw [h] at hx; simp at hx)
    simp only [Option.some.injEq, Addr.mk.injEq] at e
    obtain ⟨rfl, rfl, -⟩ := e
    obtain ⟨p, c', k0, k1, -⟩ := hc 0 hx
    have h2 := h (W.setCell ⟨g, oo, none⟩ (.bool true)) [g] ((Off.refl _ _).setCell _ _ (by simp)) (fun z hz => by simp at hz; omega)
    obtain ⟨a, cap, e, hm2, hA2⟩ := h2
    simp only [Value.slice.injEq] at e
    obtain ⟨rfl, -, -⟩ := e
    obtain ⟨b, off, e, hlt2, hc2⟩ := hA2 (by intro h; rw [h] at hx; simp at hx)
    simp only [Option.some.injEq, Addr.mk.injEq] at e
    obtain ⟨rfl, rfl, -⟩ := e
    obtain ⟨p2, c2, j0, -, -⟩ := hc2 0 hx
    simp only [Nat.zero_mul, Nat.add_zero] at k0 j0
    rw [World.cell?_setCell_same _ _ _ k0] at j0
    simp at j0
  · omega
theorem msr_read {W : World} {g : Nat} {n : Nat} {c : Nat} {us : List Value} {xs : List MMirror} {bi : List (List Nat)} (o : Own W 38 2 (.slice (some ⟨g, 0, none⟩) n c) n (msC us xs) [g]) (r : MsR W us xs bi) (hn : xs.length = n) (i : Nat) (hi : i < n) : ∃ p c, W.cell? ⟨g, i * 2, none⟩ = some (.int .i64 (xs.getD i zM).xQ) ∧ W.cell? ⟨g, i * 2 + 1, none⟩ = some (.slice p (xs.getD i zM).xViews.length c) ∧ ReadsM W (.slice p (xs.getD i zM).xViews.length c) (xs.getD i zM).xViews := by
  obtain ⟨u, b, h1, h2, h3⟩ := r.get i (by omega)
  obtain ⟨g1, g2⟩ := msC_get r.len.1 i (by omega)
  have h4 := h3.reads
  obtain ⟨p, c', e⟩ := h4.shp
  subst e
  exact ⟨p, c', (Own.cell o (i * 2) (by omega)).trans g1, (Own.cell o (i * 2 + 1) (by omega)).trans (g2.trans h1), h4⟩
theorem Duo.shx {n0 : Nat} {W : World} {v v' : Value} {gx gy : Nat} {xs ys : List MMirror} {us us' : List Value} {bi bi' : List (List Nat)} (h : Duo n0 W v v' gx gy xs ys us us' bi bi') (hx : 0 < xs.length) : ∃ c, v = .slice (some ⟨gx, 0, none⟩) xs.length c ∧ xs.length ≤ c ∧ c ≤ maxLen := by
  obtain ⟨g, c, e, e', h1, h2⟩ := Own.shape h.ox hx
  simp only [List.cons.injEq, and_true] at e
  subst e
  exact ⟨c, e', h1, h2⟩
theorem Duo.stx {n0 : Nat} {W : World} {v v' : Value} {gx gy : Nat} {xs ys : List MMirror} {us us' : List Value} {bi bi' : List (List Nat)} (h : Duo n0 W v v' gx gy xs ys us us' bi bi') (hx : 0 < xs.length) : StS n0 W v xs := by
  intro V cs o hc
  have h' := h.off o (fun z hz => .inl (hc z hz))
  obtain ⟨c, rfl, h1, h2⟩ := h'.shx hx
  exact ⟨_, _, rfl, by omega, fun _ => ⟨gx, 0, rfl, Own.lt h'.ox gx (by simp), fun i hi => by simpa using msr_read h'.ox h'.rx rfl i hi⟩⟩
/-- all but the first -/
theorem Duo.sty1 {n0 : Nat} {W : World} {v : Value} {gx gy c : Nat} {xs ys : List MMirror} {us us' : List Value} {bi bi' : List (List Nat)} {n : Nat} (h : Duo n0 W v (.slice (some ⟨gy, 0, none⟩) n c) gx gy xs ys us us' bi bi') (hn : ys.length = n) (hx : 0 < n) (hm : n ≤ 1000) : StS n0 W (.slice (some ⟨gy, 2, none⟩) (n - 1) (c - 1)) (ys.drop 1) := by
  intro V cs o hc
  have h' := h.off o (fun z hz => .inl (hc z hz))
  have hy := h'.oy
  rw [hn] at hy
  refine ⟨_, _, by rw [List.length_drop, hn], by rw [List.length_drop, hn]; unfold maxLen; omega, fun _ => ⟨gy, 2, rfl, Own.lt hy gy (by simp), fun i hi => ?_⟩⟩
  rw [List.length_drop, hn] at hi
  have k := msr_read hy h'.ry hn (i + 1) (by omega)
  have e : (ys.drop 1).getD i zM = ys.getD (i + 1) zM := by simp [List.getD_eq_getElem?_getD]
  rw [e]
  have e2 : (i + 1) * 2 = 2 + i * 2 := by omega
  rw [e2] at k
  exact k
/-- another one is put in the first place -/
theorem Duo.put0 {n0 L : Nat} {W : World} {v' : Value} {gx gy c : Nat} {xs ys : List MMirror} {us us' : List Value} {bi bi' : List (List Nat)} {n : Nat} (h : Duo n0 W (.slice (some ⟨gx, 0, none⟩) n c) v' gx gy xs ys us us' bi bi') (hn : xs.length = n) (hx : 0 < n) (hm : n ≤ 1000) (hy : 0 < ys.length)
    (x' : MMirror) (p : Option Addr) (d : Nat) (hg : gx < L) (hg2 : n0 ≤ L) (st : ∀ V cs, Off cs W V → (∀ z ∈ cs, z < L) → RdMirror V (.agg #[.int .i64 x'.xQ, .slice p x'.xViews.length d]) x') :
    StS n0 ((W.setCell ⟨gx, 0, none⟩ (.int .i64 x'.xQ)).setCell ⟨gx, 1, none⟩ (.slice p x'.xViews.length d)) (.slice (some ⟨gx, 0, none⟩) n c) (xs.set 0 x') ∧ StS n0 ((W.setCell ⟨gx, 0, none⟩ (.int .i64 x'.xQ)).setCell ⟨gx, 1, none⟩ (.slice p x'.xViews.length d)) v' ys := by
  have ox := h.ox
  rw [hn] at ox
  have o2 := Own.set (Own.set ox 0 (.int .i64 x'.xQ)) 1 (.slice p x'.xViews.length d)
  have OO : Off [gx] W ((W.setCell ⟨gx, 0, none⟩ (.int .i64 x'.xQ)).setCell ⟨gx, 1, none⟩ (.slice p x'.xViews.length d)) := ((Off.refl _ _).setCell _ _ (by simp)).setCell _ _ (by simp)
  have rx := h.rx.off OO (fun y hy hm => by simp at hm; exact (h.nx y (.inl hy)).1 hm)
  have oy := Own.off h.oy OO (fun y hy hm => by simp at hy hm; subst hy; exact h.nxy hm.symm)
  have ry := h.ry.off OO (fun y hy hm => by simp at hm; exact (h.nx y (.inr hy)).1 hm)
  have lr := h.rx.len
  have c0 : (msC us xs).length = n * 2 := by rw [msC_len lr.1, hn]
  generalize ((W.setCell ⟨gx, 0, none⟩ (.int .i64 x'.xQ)).setCell ⟨gx, 1, none⟩ (.slice p x'.xViews.length d)) = W2 at *
  constructor
  · intro V cs o hc
    have fx := h.fx
    have o3 := Own.off o2 o (fun y hy hm => by simp at hy; subst hy; have := hc y hm; omega)
    have r3 := rx.off o (fun y hy hm => by have := (h.nx y (.inl hy)).2.2; have := hc y hm; omega)
    refine ⟨_, _, by rw [List.length_set, hn], by rw [List.length_set, hn]; unfold maxLen; omega, fun _ => ⟨gx, 0, rfl, Own.lt o3 gx (by simp), fun i hi => ?_⟩⟩
    rw [List.length_set, hn] at hi
    rcases Nat.eq_zero_or_pos i with rfl | hp
    · have e : (xs.set 0 x').getD 0 zM = x' := by simp [List.getD_eq_getElem?_getD, List.getElem?_set_self (show 0 < xs.length by omega)]
      rw [e]
      obtain ⟨p', d', e1, r⟩ := st V ([gx] ++ cs) ((OO.mono (fun y hy => List.mem_append_left _ hy)).trans (o.mono (fun y hy => List.mem_append_right _ hy))) (fun z hz => by
        rcases List.mem_append.1 hz with k | k
        · simp at k; omega
        · have := hc z k; omega)
      simp only [Value.agg.injEq, Array.mk.injEq, List.cons.injEq, Value.slice.injEq, true_and, and_true] at e1
      obtain ⟨rfl, rfl⟩ := e1
      refine ⟨p, d, ?_, ?_, r⟩
      · rw [Own.cell o3 (0 + 0 * 2) (by omega)]
        have h1 : (0 : Nat) < (msC us xs).length := by omega
        simp [h1]
      · rw [Own.cell o3 (0 + 0 * 2 + 1) (by omega)]
        have h1 : (1 : Nat) < (msC us xs).length := by omega
        simp [h1]
    · have e : (xs.set 0 x').getD i zM = xs.getD i zM := by
        rw [List.getD_eq_getElem?_getD, List.getElem?_set_ne (by omega), ← List.getD_eq_getElem?_getD]
      rw [e]
      obtain ⟨u, b, g1, g2, g3⟩ := r3.get i (by omega)
      obtain ⟨k1, k2⟩ := msC_get lr.1 i (by omega)
      have h4 := g3.reads
      obtain ⟨p', c', e'⟩ := h4.shp
      subst e'
      refine ⟨p', c', ?_, ?_, h4⟩
      · rw [Own.cell o3 (0 + i * 2) (by omega), List.getElem?_set_ne (by omega), List.getElem?_set_ne (by omega), Nat.zero_add]
        exact k1
      · rw [Own.cell o3 (0 + i * 2 + 1) (by omega), List.getElem?_set_ne (by omega), List.getElem?_set_ne (by omega), Nat.zero_add]
        exact k2.trans g1
  · intro V cs o hc
    have fx := h.fx
    have o3 := Own.off oy o (fun y hy hm => by simp at hy; subst hy; have := hc y hm; omega)
    have r3 := ry.off o (fun y hy hm => by have := (h.nx y (.inr hy)).2.2; have := hc y hm; omega)
    obtain ⟨g, c', e1, rfl, k1, k2⟩ := Own.shape o3 hy
    simp only [List.cons.injEq, and_true] at e1
    subst e1
    exact ⟨_, _, rfl, by omega, fun _ => ⟨gy, 0, rfl, Own.lt o3 gy (by simp), fun i hi => by simpa using msr_read o3 r3 rfl i hi⟩⟩
/-- mirrors without a fault -/
def OkMs (xs : List MMirror) : Prop := ∀ j, j < xs.length → mirC (xs.getD j zM).xQ (xs.getD j zM).xViews = 0
theorem OkMs.snoc {xs : List MMirror} (h : OkMs xs) {x : MMirror} (hx : mirC x.xQ x.xViews = 0) : OkMs (xs ++ [x]) := by
  intro j hj
  rw [List.length_append, List.length_singleton] at hj
  rcases Nat.lt_or_ge j xs.length with k | k
  · have e : (xs ++ [x]).getD j zM = xs.getD j zM := by simp [List.getD_eq_getElem?_getD, List.getElem?_append_left k]
    rw [e]; exact h j k
  · obtain rfl : j = xs.length := by omega
    simpa using hx
theorem drawn_ok {q : Int} {xs : List Int} (hq : isQ q) (h4 : xs.length = 4) (h : ElQ q xs) : mirC q (mirRows xs) = 0 := mirC_mirRows hq h4 (h.okV (by rcases hq with e | e <;> omega))
/-- what is drawn for a row of products: only the first of xs may have a fault -/
structure DrawnD (xs ys : List MMirror) : Prop where
  h0 : 0 < xs.length
  h3 : xs.length ≤ 3
  hy : ys.length ≤ 3
  okx : ∀ j, 0 < j → j < xs.length → mirC (xs.getD j zM).xQ (xs.getD j zM).xViews = 0
  oky : OkMs ys
end Go.Proofs.YtepobckhfodngabGreat
