/-
  Rows of products in the model: a number put to a part, and what all begin with.
-/
import Derived.Test.YtepobckhfodngaoGreatSpA
import Derived.Test.YtepobckhfodngaoGreatMirO
namespace Go.Proofs.YtepobckhfodngaoGreat
open Go.ChangeShapes Go.WideShapes Go.ChangeAt Go.RowKit
set_option linter.unusedVariables false

theorem unflat_row (fs : List Int) (p : Nat) (hp : p < 4) : (unflat fs).getD p [] = row4 fs p := by
  obtain rfl | rfl | rfl | rfl : p = 0 ∨ p = 1 ∨ p = 2 ∨ p = 3 := by omega
  all_goals rfl
theorem unflat_set {fs : List Int} (h : fs.length = 16) (p k : Nat) (hp : p < 4) (hk : k < 4) (y : Int) : unflat (fs.set (p * 4 + k) y) = (unflat fs).set p ((row4 fs p).set k y) := by
  obtain ⟨a0, a1, a2, a3, b0, b1, b2, b3, c0, c1, c2, c3, d0, d1, d2, d3, rfl⟩ := lit16 h
  obtain rfl | rfl | rfl | rfl : p = 0 ∨ p = 1 ∨ p = 2 ∨ p = 3 := by omega
  all_goals
    obtain rfl | rfl | rfl | rfl : k = 0 ∨ k = 1 ∨ k = 2 ∨ k = 3 := by omega
    all_goals rfl
/-- one part of owned views: where it lies, and what comes of writing it -/
theorem Mat.part {w : World} {v : Value} {fs : List Int} {bs : List Nat} (h : Mat w v (unflat fs) bs) (hf : fs.length = 16) (p : Nat) (hp : p < 4) :
    ∃ gv cv gr cr, v = .slice (some ⟨gv, 0, none⟩) 4 cv ∧ w.cell? ⟨gv, p, none⟩ = some (.slice (some ⟨gr, 0, none⟩) 4 cr) ∧ gv ∈ bs ∧ gr ∈ bs ∧ gv ≠ gr ∧ (∀ k, k < 4 → w.cell? ⟨gr, k, none⟩ = some (.int .i64 (fs.getD (p * 4 + k) 0)) ∧ w.frozen? ⟨gr, k, none⟩ = false) ∧ ∀ W : World, (∀ g ∈ bs, W.heap[g]? = w.heap[g]?) → ∀ k y, k < 4 → Mat (W.setCell ⟨gr, k, none⟩ (.int .i64 y)) v (unflat (fs.set (p * 4 + k) y)) bs := by
  obtain ⟨vs, bo, bi, hO, hR, rfl, hd⟩ := h
  have h4 : (unflat fs).length = 4 := rfl
  obtain ⟨gv, cv, rfl, rfl, _, _⟩ := Own.shape hO (by rw [h4]; omega)
  obtain ⟨u, b, hu, hb, hI⟩ := hR.get p (by rw [h4]; exact hp)
  rw [unflat_row fs p hp] at hI
  have hr4 : (row4 fs p).length = 4 := rfl
  have hI' := hI
  obtain ⟨te, hI⟩ := hI
  obtain ⟨gr, cr, rfl, rfl, _, _⟩ := Own.shape hI (by rw [hr4]; omega)
  have hgr : gr ∈ bi.flatten := mem_flat hb (by simp)
  have hgv : gv ∉ bi.flatten := fun hm => (List.nodup_append.1 hd).2.2 gv (by simp) gv hm rfl
  refine ⟨gv, cv, gr, cr, by rw [h4], ?_, by simp, List.mem_append_right _ hgr, fun e => hgv (e ▸ hgr), fun k hk => ⟨?_, Own.frozen hI k⟩, fun W hW k y hk => ?_⟩
  · rw [Own.cell hO p (by rw [h4]; omega), hu, hr4]
  · rw [Own.cell hI k (by rw [hr4]; omega), List.getElem?_map, List.getElem?_eq_getElem (by rw [hr4]; exact hk)]
    have := row4_getD fs p k hk
    rw [List.getD_eq_getElem?_getD, List.getElem?_eq_getElem (by rw [hr4]; exact hk)] at this
    simp only [Option.getD_some] at this
    simp [this]
  · replace hO := hO.frame (fun g hg => hW g (List.mem_append_left _ hg))
    replace hR := hR.frame (fun g hg => hW g (List.mem_append_right _ hg))
    replace hI := hI.frame (fun g hg => hW g (List.mem_append_right _ (mem_flat hb hg)))
    have hoff : Off [gr] W (W.setCell ⟨gr, k, none⟩ (.int .i64 y)) := (Off.refl _ _).setCell _ _ (by simp)
    have hI2 : Ints (W.setCell ⟨gr, k, none⟩ (.int .i64 y)) (.slice (some ⟨gr, 0, none⟩) (row4 fs p).length cr) ((row4 fs p).set k y) [gr] := by
      have := Own.set hI k (.int .i64 y)
      refine ⟨te, ?_⟩
      rw [List.length_set]
      simpa [List.map_set] using this
    rw [unflat_set hf p k hp hk]
    exact ⟨vs, [gv], bi, by rw [List.length_set]; exact hO.off hoff (by simp; exact fun e => hgv (e ▸ hgr)), hR.upd (by rw [h4]; exact hp) hu hb hoff hI2 (List.nodup_append.1 hd).2.1, rfl, hd⟩
/-- the mirror of q and of these sixteen numbers lies in block b, its views in the blocks bs -/
def MirIn (w : World) (b : Nat) (q : Int) (fs : List Int) (bs : List Nat) : Prop := ∃ v, Blk w b 36 #[.int .i64 q, v] ∧ Mat w v (unflat fs) bs ∧ b ∉ bs
theorem MirIn.lt {w : World} {b : Nat} {q : Int} {fs : List Int} {bs : List Nat} (h : MirIn w b q fs bs) : b < w.heap.size := by obtain ⟨v, h1, _⟩ := h; exact h1.lt
theorem MirIn.lts {w : World} {b : Nat} {q : Int} {fs : List Int} {bs : List Nat} (h : MirIn w b q fs bs) : ∀ y ∈ bs, y < w.heap.size := by obtain ⟨v, _, h1, _⟩ := h; exact h1.lt
theorem MirIn.off {w w' : World} {b : Nat} {q : Int} {fs : List Int} {bs cs : List Nat} (h : MirIn w b q fs bs) (k : Off cs w w') (h0 : b ∉ cs) (hd : ∀ y ∈ bs, y ∉ cs) : MirIn w' b q fs bs := by
  obtain ⟨v, h1, h2, h3⟩ := h
  exact ⟨v, h1.off k h0, h2.off k hd, h3⟩
theorem MirIn.keep {w w' : World} {b : Nat} {q : Int} {fs : List Int} {bs : List Nat} (h : MirIn w b q fs bs) (k : Below w.heap.size w w') : MirIn w' b q fs bs := h.off (cs := []) (Off.ofBelow k) (by simp) (by simp)
theorem MirIn.q0 {w : World} {b : Nat} {q : Int} {fs : List Int} {bs : List Nat} (h : MirIn w b q fs bs) : w.cell? ⟨b, 0, none⟩ = some (.int .i64 q) := by obtain ⟨v, h1, _⟩ := h; exact h1.at.1 0
set_option maxHeartbeats 8000000 in
set_option maxRecDepth 100000 in
theorem spec_l5Put (q : Int) (b : Nat) (fs : List Int) (bs : List Nat) (p k : Nat) (y : Int) (w : World) (M : MirIn w b q fs bs) (hF : Ok16 q fs) (hq : q = 2 ∨ q = 256) (hp : p < 4) (hk : k < 4) (hy : 0 ≤ y ∧ y < q) :
    Calls Tryz.prog 112 #[.pointer (some ⟨b, 0, none⟩), .int .i64 p, .int .i64 k, .int .i64 y] w fun e w' => e = .returned (.tuple #[]) ∧ MirIn w' b q (putF q fs p k y) bs ∧ Off bs w w' := by
  obtain ⟨v, Z, hM, nb⟩ := M
  obtain ⟨gv, cv, gr, cr, rfl, c1, mv, mr, ne, c2, hset⟩ := hM.part hF.1 p hp
  have hx := hF.2 (p * 4 + k)
  have c3 := (c2 k hk).1
  have f3 := (c2 k hk).2
  have HPF : Hid (∀ W, (W = w.setCell ⟨gr, k, none⟩ (.int .i64 ((fs.getD (p * 4 + k) 0 + y) % q))) → Mat W (.slice (some ⟨gv, 0, none⟩) 4 cv) (unflat (putF q fs p k y)) bs) := fun W hW => by rw [hW]; exact hset w (fun _ _ => rfl) k _ hk
  have q1 : 1 ≤ q := by omega
  have q2 : q ≤ 256 := by omega
  have hbg : b ≠ gr := fun h => nb (h ▸ mr)
  have hp1 : (p : Int) < 4 := by omega
  have hp0 : (0 : Int) ≤ (p : Int) := by omega
  have hk1 : (k : Int) < 4 := by omega
  have hk0 : (0 : Int) ≤ (k : Int) := by omega
  generalize fs.getD (p * 4 + k) 0 = x at *
  have w1 : IntKind.i64.wrap (x + y) = x + y := by rw [IntKind.wrap_i64]; omega
  have lgv := hM.lt _ mv
  have lgr := hM.lt _ mr
  clear hF c2 hset hq hp hk
  go_enter Tryz.func112, Tryz.ntmps112
  go_wp2_with fail
  have HSS : Hid (∀ V, Off [gr] w.drew V → (∀ o, V.cell? ⟨b, o, none⟩ = (#[.int .i64 q, .slice (some ⟨gv, 0, none⟩) 4 cv] : Array Value)[o]?) ∧ V.cell? ⟨gv, p, none⟩ = some (.slice (some ⟨gr, 0, none⟩) 4 cr)) := fun V O => ⟨(Z.drew.off O (by simp; exact hbg)).at.1, ((O.at gv (by simpa using lgv) (by simp; exact ne)).1 _).trans c1⟩
  refine wp_region_held (S := fun V => (∀ o, V.cell? ⟨b, o, none⟩ = (#[.int .i64 q, .slice (some ⟨gv, 0, none⟩) 4 cv] : Array Value)[o]?) ∧ V.cell? ⟨gv, p, none⟩ = some (.slice (some ⟨gr, 0, none⟩) 4 cr)) (by kernel_rfl) ?_
  try (change wpAnyH _ _ _ _ _ _ _ _ (World.drew _))
  have hS := HSS.out _ (Off.refl _ _)
  refine wpAnyH_take (i := 0) (v := .pointer (some ⟨b, 0, none⟩)) rfl (by kernel_rfl) (by kernel_rfl) (by kernel_rfl) (fun _ _ _ h => h) (Or.inl ⟨by rfl, ?_⟩) hS ?_
  · intro w' hSw
    go_simp
  (try simp only [List.getElem_toArray]); (try simp only [List.getElem_cons_succ]); (try simp only [List.getElem_cons_zero]); (try simp only [Act.put]); (try simp only [List.setIfInBounds_toArray]); (try simp only [List.set_cons_succ]); (try simp only [List.set_cons_zero])
  refine wpAnyH_take (i := 1) (v := .pointer (some ⟨b, 0, none⟩)) rfl (by kernel_rfl) (by kernel_rfl) (by kernel_rfl) (fun _ _ _ h => h) (Or.inl ⟨by rfl, ?_⟩) hS ?_
  · intro w' hSw
    go_simp
  (try simp only [List.getElem_toArray]); (try simp only [List.getElem_cons_succ]); (try simp only [List.getElem_cons_zero]); (try simp only [Act.put]); (try simp only [List.setIfInBounds_toArray]); (try simp only [List.set_cons_succ]); (try simp only [List.set_cons_zero])
  refine wpAnyH_take (i := 2) (v := .pointer (some ⟨b, 1, none⟩)) rfl (by kernel_rfl) (by kernel_rfl) (by kernel_rfl) (fun _ _ _ h => h) (Or.inl ⟨by rfl, ?_⟩) hS ?_
  · intro w' hSw
    go_simp
  (try simp only [List.getElem_toArray]); (try simp only [List.getElem_cons_succ]); (try simp only [List.getElem_cons_zero]); (try simp only [Act.put]); (try simp only [List.setIfInBounds_toArray]); (try simp only [List.set_cons_succ]); (try simp only [List.set_cons_zero])
  refine wpAnyH_take (i := 3) (v := .slice (some ⟨gv, 0, none⟩) 4 cv) rfl (by kernel_rfl) (by kernel_rfl) (by kernel_rfl) (fun _ _ _ h => h) (Or.inl ⟨by rfl, ?_⟩) hS ?_
  · intro w' hSw
    have h0 := hSw.1 0; have h1 := hSw.1 1; have h2 := hSw.2; go_simp
  (try simp only [List.getElem_toArray]); (try simp only [List.getElem_cons_succ]); (try simp only [List.getElem_cons_zero]); (try simp only [Act.put]); (try simp only [List.setIfInBounds_toArray]); (try simp only [List.set_cons_succ]); (try simp only [List.set_cons_zero])
  refine wpAnyH_take (i := 4) (v := .int .i64 p) rfl (by kernel_rfl) (by kernel_rfl) (by kernel_rfl) (fun _ _ _ h => h) (Or.inl ⟨by rfl, ?_⟩) hS ?_
  · intro w' hSw
    go_simp
  (try simp only [List.getElem_toArray]); (try simp only [List.getElem_cons_succ]); (try simp only [List.getElem_cons_zero]); (try simp only [Act.put]); (try simp only [List.setIfInBounds_toArray]); (try simp only [List.set_cons_succ]); (try simp only [List.set_cons_zero])
  refine wpAnyH_take (i := 5) (v := .pointer (some ⟨gv, p, none⟩)) rfl (by kernel_rfl) (by kernel_rfl) (by kernel_rfl) (fun _ _ _ h => h) (Or.inl ⟨by rfl, ?_⟩) hS ?_
  · intro w' hSw
    go_simp
  (try simp only [List.getElem_toArray]); (try simp only [List.getElem_cons_succ]); (try simp only [List.getElem_cons_zero]); (try simp only [Act.put]); (try simp only [List.setIfInBounds_toArray]); (try simp only [List.set_cons_succ]); (try simp only [List.set_cons_zero])
  refine wpAnyH_take (i := 6) (v := .slice (some ⟨gr, 0, none⟩) 4 cr) rfl (by kernel_rfl) (by kernel_rfl) (by kernel_rfl) (fun _ _ _ h => h) (Or.inl ⟨by rfl, ?_⟩) hS ?_
  · intro w' hSw
    have h0 := hSw.1 0; have h1 := hSw.1 1; have h2 := hSw.2; go_simp
  (try simp only [List.getElem_toArray]); (try simp only [List.getElem_cons_succ]); (try simp only [List.getElem_cons_zero]); (try simp only [Act.put]); (try simp only [List.setIfInBounds_toArray]); (try simp only [List.set_cons_succ]); (try simp only [List.set_cons_zero])
  refine wpAnyH_take (i := 7) (v := .int .i64 k) rfl (by kernel_rfl) (by kernel_rfl) (by kernel_rfl) (fun _ _ _ h => h) (Or.inl ⟨by rfl, ?_⟩) hS ?_
  · intro w' hSw
    go_simp
  (try simp only [List.getElem_toArray]); (try simp only [List.getElem_cons_succ]); (try simp only [List.getElem_cons_zero]); (try simp only [Act.put]); (try simp only [List.setIfInBounds_toArray]); (try simp only [List.set_cons_succ]); (try simp only [List.set_cons_zero])
  refine wpAnyH_take (i := 8) (v := .pointer (some ⟨b, 0, none⟩)) rfl (by kernel_rfl) (by kernel_rfl) (by kernel_rfl) (fun _ _ _ h => h) (Or.inl ⟨by rfl, ?_⟩) hS ?_
  · intro w' hSw
    go_simp
  (try simp only [List.getElem_toArray]); (try simp only [List.getElem_cons_succ]); (try simp only [List.getElem_cons_zero]); (try simp only [Act.put]); (try simp only [List.setIfInBounds_toArray]); (try simp only [List.set_cons_succ]); (try simp only [List.set_cons_zero])
  refine wpAnyH_take (i := 9) (v := .pointer (some ⟨b, 0, none⟩)) rfl (by kernel_rfl) (by kernel_rfl) (by kernel_rfl) (fun _ _ _ h => h) (Or.inl ⟨by rfl, ?_⟩) hS ?_
  · intro w' hSw
    go_simp
  (try simp only [List.getElem_toArray]); (try simp only [List.getElem_cons_succ]); (try simp only [List.getElem_cons_zero]); (try simp only [Act.put]); (try simp only [List.setIfInBounds_toArray]); (try simp only [List.set_cons_succ]); (try simp only [List.set_cons_zero])
  refine wpAnyH_take (i := 10) (v := .pointer (some ⟨b, 0, none⟩)) rfl (by kernel_rfl) (by kernel_rfl) (by kernel_rfl) (fun _ _ _ h => h) (Or.inl ⟨by rfl, ?_⟩) hS ?_
  · intro w' hSw
    go_simp
  (try simp only [List.getElem_toArray]); (try simp only [List.getElem_cons_succ]); (try simp only [List.getElem_cons_zero]); (try simp only [Act.put]); (try simp only [List.setIfInBounds_toArray]); (try simp only [List.set_cons_succ]); (try simp only [List.set_cons_zero])
  refine wpAnyH_take (i := 11) (v := .int .i64 q) rfl (by kernel_rfl) (by kernel_rfl) (by kernel_rfl) (fun _ _ _ h => h) (Or.inl ⟨by rfl, ?_⟩) hS ?_
  · intro w' hSw
    have h0 := hSw.1 0; have h1 := hSw.1 1; have h2 := hSw.2; go_simp
  (try simp only [List.getElem_toArray]); (try simp only [List.getElem_cons_succ]); (try simp only [List.getElem_cons_zero]); (try simp only [Act.put]); (try simp only [List.setIfInBounds_toArray]); (try simp only [List.set_cons_succ]); (try simp only [List.set_cons_zero])
  refine wpAnyH_take (i := 12) (v := .pointer (some ⟨b, 0, none⟩)) rfl (by kernel_rfl) (by kernel_rfl) (by kernel_rfl) (fun _ _ _ h => h) (Or.inl ⟨by rfl, ?_⟩) hS ?_
  · intro w' hSw
    go_simp
  (try simp only [List.getElem_toArray]); (try simp only [List.getElem_cons_succ]); (try simp only [List.getElem_cons_zero]); (try simp only [Act.put]); (try simp only [List.setIfInBounds_toArray]); (try simp only [List.set_cons_succ]); (try simp only [List.set_cons_zero])
  refine wpAnyH_take (i := 13) (v := .pointer (some ⟨b, 0, none⟩)) rfl (by kernel_rfl) (by kernel_rfl) (by kernel_rfl) (fun _ _ _ h => h) (Or.inl ⟨by rfl, ?_⟩) hS ?_
  · intro w' hSw
    go_simp
  (try simp only [List.getElem_toArray]); (try simp only [List.getElem_cons_succ]); (try simp only [List.getElem_cons_zero]); (try simp only [Act.put]); (try simp only [List.setIfInBounds_toArray]); (try simp only [List.set_cons_succ]); (try simp only [List.set_cons_zero])
  refine wpAnyH_take (i := 14) (v := .pointer (some ⟨b, 1, none⟩)) rfl (by kernel_rfl) (by kernel_rfl) (by kernel_rfl) (fun _ _ _ h => h) (Or.inl ⟨by rfl, ?_⟩) hS ?_
  · intro w' hSw
    go_simp
  (try simp only [List.getElem_toArray]); (try simp only [List.getElem_cons_succ]); (try simp only [List.getElem_cons_zero]); (try simp only [Act.put]); (try simp only [List.setIfInBounds_toArray]); (try simp only [List.set_cons_succ]); (try simp only [List.set_cons_zero])
  refine wpAnyH_take (i := 15) (v := .slice (some ⟨gv, 0, none⟩) 4 cv) rfl (by kernel_rfl) (by kernel_rfl) (by kernel_rfl) (fun _ _ _ h => h) (Or.inl ⟨by rfl, ?_⟩) hS ?_
  · intro w' hSw
    have h0 := hSw.1 0; have h1 := hSw.1 1; have h2 := hSw.2; go_simp
  (try simp only [List.getElem_toArray]); (try simp only [List.getElem_cons_succ]); (try simp only [List.getElem_cons_zero]); (try simp only [Act.put]); (try simp only [List.setIfInBounds_toArray]); (try simp only [List.set_cons_succ]); (try simp only [List.set_cons_zero])
  refine wpAnyH_take (i := 16) (v := .int .i64 p) rfl (by kernel_rfl) (by kernel_rfl) (by kernel_rfl) (fun _ _ _ h => h) (Or.inl ⟨by rfl, ?_⟩) hS ?_
  · intro w' hSw
    go_simp
  (try simp only [List.getElem_toArray]); (try simp only [List.getElem_cons_succ]); (try simp only [List.getElem_cons_zero]); (try simp only [Act.put]); (try simp only [List.setIfInBounds_toArray]); (try simp only [List.set_cons_succ]); (try simp only [List.set_cons_zero])
  refine wpAnyH_take (i := 17) (v := .pointer (some ⟨gv, p, none⟩)) rfl (by kernel_rfl) (by kernel_rfl) (by kernel_rfl) (fun _ _ _ h => h) (Or.inl ⟨by rfl, ?_⟩) hS ?_
  · intro w' hSw
    go_simp
  (try simp only [List.getElem_toArray]); (try simp only [List.getElem_cons_succ]); (try simp only [List.getElem_cons_zero]); (try simp only [Act.put]); (try simp only [List.setIfInBounds_toArray]); (try simp only [List.set_cons_succ]); (try simp only [List.set_cons_zero])
  refine wpAnyH_take (i := 18) (v := .slice (some ⟨gr, 0, none⟩) 4 cr) rfl (by kernel_rfl) (by kernel_rfl) (by kernel_rfl) (fun _ _ _ h => h) (Or.inl ⟨by rfl, ?_⟩) hS ?_
  · intro w' hSw
    have h0 := hSw.1 0; have h1 := hSw.1 1; have h2 := hSw.2; go_simp
  (try simp only [List.getElem_toArray]); (try simp only [List.getElem_cons_succ]); (try simp only [List.getElem_cons_zero]); (try simp only [Act.put]); (try simp only [List.setIfInBounds_toArray]); (try simp only [List.set_cons_succ]); (try simp only [List.set_cons_zero])
  refine wpAnyH_take (i := 19) (v := .int .i64 k) rfl (by kernel_rfl) (by kernel_rfl) (by kernel_rfl) (fun _ _ _ h => h) (Or.inl ⟨by rfl, ?_⟩) hS ?_
  · intro w' hSw
    go_simp
  (try simp only [List.getElem_toArray]); (try simp only [List.getElem_cons_succ]); (try simp only [List.getElem_cons_zero]); (try simp only [Act.put]); (try simp only [List.setIfInBounds_toArray]); (try simp only [List.set_cons_succ]); (try simp only [List.set_cons_zero])
  refine wpAnyH_take (i := 20) (v := .pointer (some ⟨gr, k, none⟩)) rfl (by kernel_rfl) (by kernel_rfl) (by kernel_rfl) (fun _ _ _ h => h) (Or.inl ⟨by rfl, ?_⟩) hS ?_
  · intro w' hSw
    go_simp
  (try simp only [List.getElem_toArray]); (try simp only [List.getElem_cons_succ]); (try simp only [List.getElem_cons_zero]); (try simp only [Act.put]); (try simp only [List.setIfInBounds_toArray]); (try simp only [List.set_cons_succ]); (try simp only [List.set_cons_zero])
  refine wpAnyH_take (i := 22) (v := .int .i64 y) rfl (by kernel_rfl) (by kernel_rfl) (by kernel_rfl) (fun _ _ _ h => h) (Or.inl ⟨by rfl, ?_⟩) hS ?_
  · intro w' hSw
    go_simp
  (try simp only [List.getElem_toArray]); (try simp only [List.getElem_cons_succ]); (try simp only [List.getElem_cons_zero]); (try simp only [Act.put]); (try simp only [List.setIfInBounds_toArray]); (try simp only [List.set_cons_succ]); (try simp only [List.set_cons_zero])
  refine wpAnyH_ready (rs := [21]) (by kernel_rfl) (by simp) ?_
  refine AllReadyH.cons (o := _) rfl (fun K hK => ?_) AllReadyH.nil
  rw [if_pos (by rfl)]
  go_simp
  refine hK.out _ _ (HSS.out _ (Off.refl _ _)) (fun hS => ?_)
  clear hK K
  (try simp only [List.getElem_toArray]); (try simp only [List.getElem_cons_succ]); (try simp only [List.getElem_cons_zero]); (try simp only [Act.put]); (try simp only [List.setIfInBounds_toArray]); (try simp only [List.set_cons_succ]); (try simp only [List.set_cons_zero])
  refine wpAnyH_take (i := 23) (v := .int .i64 (x + y)) rfl (by kernel_rfl) (by kernel_rfl) (by kernel_rfl) (fun _ _ _ h => h) (Or.inl ⟨by rfl, ?_⟩) hS ?_
  · intro w' hSw
    go_simp
  (try simp only [List.getElem_toArray]); (try simp only [List.getElem_cons_succ]); (try simp only [List.getElem_cons_zero]); (try simp only [Act.put]); (try simp only [List.setIfInBounds_toArray]); (try simp only [List.set_cons_succ]); (try simp only [List.set_cons_zero])
  refine wpAnyH_ready (rs := [24]) (by kernel_rfl) (by simp) ?_
  refine AllReadyH.cons (o := _) rfl (fun K hK => ?_) AllReadyH.nil
  rw [if_pos (by rfl)]
  go_simp
  go_at_call 90
  refine (spec_l1Mod q (x + y) _ q1 q2).mono ?_
  rintro e w5 ⟨rfl, rfl⟩
  dsimp only
  refine hK.out _ _ (HSS.out _ (Off.refl _ _)) (fun hS => ?_)
  clear hK K
  (try simp only [List.getElem_toArray]); (try simp only [List.getElem_cons_succ]); (try simp only [List.getElem_cons_zero]); (try simp only [Act.put]); (try simp only [List.setIfInBounds_toArray]); (try simp only [List.set_cons_succ]); (try simp only [List.set_cons_zero])
  refine wpAnyH_take (i := 25) (v := .pointer (some ⟨gr, k, none⟩)) rfl (by kernel_rfl) (by kernel_rfl) (by kernel_rfl) (fun _ _ _ h => h) (Or.inl ⟨by rfl, ?_⟩) hS ?_
  · intro w' hSw
    go_simp
  (try simp only [List.getElem_toArray]); (try simp only [List.getElem_cons_succ]); (try simp only [List.getElem_cons_zero]); (try simp only [Act.put]); (try simp only [List.setIfInBounds_toArray]); (try simp only [List.set_cons_succ]); (try simp only [List.set_cons_zero])
  refine wpAnyH_ready (rs := [26]) (by kernel_rfl) (by simp) ?_
  refine AllReadyH.cons (o := _) rfl (fun K hK => ?_) AllReadyH.nil
  rw [if_pos (by rfl)]
  go_simp
  refine hK.out _ _ (HSS.out _ ((Off.refl _ _).setCell _ _ (by simp))) (fun hS => ?_)
  clear hK K
  (try simp only [List.getElem_toArray]); (try simp only [List.getElem_cons_succ]); (try simp only [List.getElem_cons_zero]); (try simp only [Act.put]); (try simp only [List.setIfInBounds_toArray]); (try simp only [List.set_cons_succ]); (try simp only [List.set_cons_zero])
  refine wpAnyH_done (by kernel_rfl) ?_ _
  clear hS
  go_wp2
  first | go_end0 | refine bodyPost_ret (results_none rfl _ _ _) rfl ?_
  exact ⟨rfl, ⟨.slice (some ⟨gv, 0, none⟩) 4 cv, (Z.setOther _ _ hbg).drew, (HPF.out _ rfl).keep (Below.refl _ _).drew, nb⟩, ((Off.refl _ _).setCell _ _ (.inl mr)).drew⟩
/-- no party's own part stands in its view -/
def OwnT (vss : List (List (List Int))) : Prop := ∀ t p, pt (vss.getD t []) p p = 0
theorem sqN_own {xss yss : List (List (List Int))} (h : OwnT xss) (p : Nat) : ∀ n, sqN xss yss p p n = 0
  | 0 => rfl
  | n + 1 => by rw [sqN, sqN_own h p n, h n p, Int.zero_mul, Int.add_zero]
def begT (q : Int) (xss yss : List (List (List Int))) (n m : Nat) : List Int := (List.range 16).map fun (j : Nat) => if j < m then sqN xss yss (j / 4) (j % 4) n % q else 0
theorem begT_len (q : Int) (xss yss : List (List (List Int))) (n m : Nat) : (begT q xss yss n m).length = 16 := by simp [begT]
theorem begT_all (q : Int) (xss yss : List (List (List Int))) (n : Nat) : begT q xss yss n 16 = sqF q xss yss n := by
  unfold begT sqF
  refine List.map_congr_left fun j hj => ?_
  rw [if_pos (by simpa using hj)]
theorem begT_zero (q : Int) (xss yss : List (List (List Int))) (n : Nat) : unflat (begT q xss yss n 0) = mirRows [0, 0, 0, 0] := rfl
theorem begT_set (q : Int) (xss yss : List (List (List Int))) (n p k : Nat) (hp : p < 4) (hk : k < 4) : (begT q xss yss n (p * 4 + k)).set (p * 4 + k) (sqN xss yss p k n % q) = begT q xss yss n (p * 4 + (k + 1)) := by
  have e1 : (p * 4 + k) / 4 = p := by omega
  have e2 : (p * 4 + k) % 4 = k := by omega
  refine List.ext_getElem (by simp [begT]) fun j h1 h2 => ?_
  have hj : j < 16 := by simpa [begT] using h2
  rw [List.getElem_set]
  by_cases e : p * 4 + k = j
  · subst e
    simp only [if_true, begT, List.getElem_map, List.getElem_range, e1, e2]
    rw [if_pos (by omega)]
  · rw [if_neg e]
    simp only [begT, List.getElem_map, List.getElem_range]
    by_cases e3 : j < p * 4 + k
    · rw [if_pos e3, if_pos (by omega)]
    · rw [if_neg e3, if_neg (by omega)]
theorem begT_own {q : Int} {xss yss : List (List (List Int))} (h : OwnT xss) (n p : Nat) (hp : p < 4) : begT q xss yss n (p * 4 + p) = begT q xss yss n (p * 4 + (p + 1)) := by
  rw [← begT_set q xss yss n p p hp hp, sqN_own h p n]
  have h16 : p * 4 + p < 16 := by omega
  refine List.ext_getElem (by simp [begT]) fun j h1 h2 => ?_
  rw [List.getElem_set]
  by_cases e : p * 4 + p = j
  · subst e
    simp [begT]
  · rw [if_neg e]
set_option maxHeartbeats 8000000 in
set_option maxRecDepth 100000 in
theorem spec_l5Begin (q : Int) (v u : Value) (n : Nat) (xs ys : List MMirror) (w : World) (hv : RdMirrorS w v xs) (hu : RdMirrorS w u ys) (hx : xs.length = n) (hy : ys.length = n) (hq : q = 2 ∨ q = 256) (hn : 1 ≤ n ∧ n ≤ 6) (sx : ∀ t, t < n → Sq ((vsOf xs).getD t [])) (sy : ∀ t, t < n → Sq ((vsOf ys).getD t [])) (bx : BdT q (vsOf xs)) (by' : BdT q (vsOf ys)) (ox : OwnT (vsOf xs)) :
    Calls Tryz.prog 88 #[.int .i64 q, v, u] w fun e w' => ∃ z bs, e = .returned (.agg #[.int .i64 q, z]) ∧ Mat w' z (unflat (sqF q (vsOf xs) (vsOf ys) n)) bs ∧ (∀ y ∈ bs, w.heap.size ≤ y) ∧ Below w.heap.size w w' := by
  obtain ⟨i0, hi, hz0, hz1, hz2⟩ := info_parts Tryz.infoI
  have KW := fun W (B : Below w.heap.size w W) p k hp hk => spec_l5Own q v u n xs ys p k W (hv.below B) (hu.below B) hx hy hq hn sx sy bx by' hp hk
  have HOX : Hid (OwnT (vsOf xs)) := ox
  have HQ : Hid (q = 2 ∨ q = 256) := hq
  generalize vsOf xs = xss at *
  generalize vsOf ys = yss at *
  clear hv hu hx hy hq hn sx sy bx by' ox
  have B0 : Below w.heap.size w (w.alloc (.cells #[.int .i64 0, .slice none 0 0] 36)) := (by repeat (first | exact Below.refl _ _ | refine Below.drew ?_ | refine below_drewN ?_ _ | refine Below.setCell ?_ (by first | omega | (simp; done) | (simp; omega)) _ | refine Below.alloc ?_ (by first | omega | (simp; done) | (simp; omega)) _))
  have Y0 := Blk.new w 36 #[.int .i64 0, .slice none 0 0]
  go_enter Tryz.func88, Tryz.ntmps88
  go_wp2_with (at_make; refine wpList_make_full _ rfl _ _ 25 rfl w.heap.size 2 i0 (.int .i64 0) 1 Tryz.underlying25 hi hz0 hz1 _ _ _ _ 4 rfl rfl rfl rfl (by rw [hz2]; omega) (by decide) (by simp) ?_)
  intro w1 hown hgrow
  have HZ1 : Hid (w.heap.size < w1.heap.size) := by have := (Below.refl (w.alloc (.cells #[.int .i64 0, .slice none 0 0] 36)).heap.size (w.alloc (.cells #[.int .i64 0, .slice none 0 0] 36))).grown hgrow (Nat.le_refl _) (fun k hk => by cases hk); have := this.size; simp at this; exact this
  have B1 : Below w.heap.size w w1 := B0.grown hgrow B0.size (fun k hk => by cases hk)
  have Y1 : Blk w1 w.heap.size 36 #[.int .i64 0, .slice none 0 0] := Y0.keep ((Below.refl _ _).grown hgrow (Nat.le_refl _) (fun k hk => by cases hk))
  obtain ⟨bm, hI, -⟩ := Own.of_owns hown
  rw [toList_madeCells_one] at hI
  have hR1 : Reads w1 .i64 (.slice (some ⟨w.heap.size + 1, 0, none⟩) 4 4) [0, 0, 0, 0] := Own.reads (xs := [0, 0, 0, 0]) hI
  clear hown hgrow hI B0 Y0
  go_wp2_with fail
  refine (spec_l3Of q _ [0, 0, 0, 0] _ hR1 rfl).mono ?_
  rintro e w2 ⟨z, b0, rfl, hM, hb0, hb2⟩
  obtain ⟨pz, cz, rfl, hM⟩ := hM
  dsimp only at hM ⊢
  have B2 := B1.trans (hb2.mono B1.size)
  have Y2 := Y1.keep hb2
  have z1 := B1.size
  clear B1 Y1 hb2 hR1
  rw [show (mirRows [0, 0, 0, 0]).length = 4 from rfl] at hM ⊢
  rw [← begT_zero q xss yss n] at hM
  skip
  have Zn := Blk.new w2 36 #[.int .i64 0, .slice none 0 0]
  have ltM := hM.lt
  go_wp2_with (refine wpList_store_blk rfl 36 _ _ rfl w2.heap.size #[.int .i64 q, .slice pz 4 cz] rfl rfl Zn rfl (by kernel_rfl) (by kernel_rfl) ?_; intro w3 Z3 O3)
  have O3' : Off [w2.heap.size] w2 w3 := ((Off.refl _ _).alloc _).trans O3
  have lY := Y2.lt
  have Y3 := Y2.off O3' (by simp; omega)
  have M3 := hM.off O3' (fun y hy hm => by have := ltM y hy; simp at hm; omega)
  have B3 : Below w.heap.size w w3 := B2.trans (O3'.toBelow B2.size (by have := B2.size; simp; omega))
  have HB0 : Hid (∀ y ∈ b0, w.heap.size < y ∧ y < w2.heap.size) := fun y hy => ⟨by have := hb0 y hy; have := HZ1.out; omega, ltM y hy⟩
  clear Zn O3 O3' B2 Y2 hM hb0 ltM
  generalize w2.heap.size = g at *
  go_wp2
  go_loopw [8] (fun a wr => ∃ p : Nat, p ≤ 4 ∧ a = .int .i64 p ∧ Blk wr w.heap.size 36 #[.int .i64 0, .slice none 0 0] ∧ Blk wr g 36 #[.int .i64 q, .slice pz 4 cz] ∧ Mat wr (.slice pz 4 cz) (unflat (begT q xss yss n (p * 4))) b0 ∧ Below w.heap.size w wr) (fun a _ => 4 - (intOf a).toNat)
  case atStart => exact ⟨0, Nat.zero_le _, rfl, Y3, Z3, M3, B3⟩
  case round =>
    clear Y3 Z3 M3 B3
    obtain ⟨p, hp, rfl, Y, Z, M, B⟩ := hrel
    by_cases hpl : p < 4
    · have hp1 : (p : Int) < 4 := by omega
      have HP : Hid (p < 4) := hpl
      have M0 : Mat wr (.slice pz 4 cz) (unflat (begT q xss yss n (p * 4 + 0))) b0 := M
      clear M
      go_wp2
      go_loopw [9] (fun a wr => ∃ k : Nat, k ≤ 4 ∧ a = .int .i64 k ∧ Blk wr w.heap.size 36 #[.int .i64 0, .slice none 0 0] ∧ Blk wr g 36 #[.int .i64 q, .slice pz 4 cz] ∧ Mat wr (.slice pz 4 cz) (unflat (begT q xss yss n (p * 4 + k))) b0 ∧ Below w.heap.size w wr) (fun a _ => 4 - (intOf a).toNat)
      case atStart => exact ⟨0, Nat.zero_le _, rfl, Y, Z, M0, B⟩
      case round =>
        clear Y Z M0 B
        obtain ⟨k, hk, rfl, Y, Z, M, B⟩ := hrel
        by_cases hkl : k < 4
        · have hk1 : (k : Int) < 4 := by omega
          by_cases hkp : k = p
          · subst hkp
            have ek : ((k : Int) != (k : Int)) = false := by simp
            rw [begT_own HOX.out n k HP.out] at M
            go_wp2
            go_roundw
            case rel => exact ⟨k + 1, by omega, by go_num, Y, Z, M, B⟩
            case measure => simp [intOf]; omega
          · have ek : ((k : Int) != (p : Int)) = true := by simp; omega
            have hp0 : (0 : Int) ≤ (p : Int) := by omega
            have hk0 : (0 : Int) ≤ (k : Int) := by omega
            obtain ⟨gv, cv, gr, cr, epz, c1, mv, mr, ne, c2, hset⟩ := M.part (begT_len q xss yss n (p * 4 + k)) p HP.out
            simp only [Value.slice.injEq, true_and] at epz
            obtain ⟨rfl, rfl⟩ := epz
            have hx := (c2 k hkl).1
            have hf := (c2 k hkl).2
            have bgv := HB0.out gv mv
            have bgr := HB0.out gr mr
            have lgv := M.lt gv mv
            have lgr := M.lt gr mr
            have HSET : Hid (∀ W : World, Below wr.heap.size wr W → Mat (W.setCell ⟨gr, k, none⟩ (.int .i64 (sqN xss yss p k n % q))) (.slice (some ⟨gv, 0, none⟩) 4 cz) (unflat (begT q xss yss n (p * 4 + (k + 1)))) b0) := fun W hb => by rw [← begT_set q xss yss n p k HP.out hkl]; exact hset W (fun y hy => hb.block y (M.lt y hy)) k _ hkl
            have HSS : Hid (∀ V, Off [gr] wr.drew V → (∀ o, V.cell? ⟨g, o, none⟩ = (#[.int .i64 q, .slice (some ⟨gv, 0, none⟩) 4 cz] : Array Value)[o]?) ∧ V.cell? ⟨gv, p, none⟩ = some (.slice (some ⟨gr, 0, none⟩) 4 cr)) := fun V O => ⟨(Z.drew.off O (by simp; omega)).at.1, ((O.at gv (by simpa using lgv) (by simp; exact ne)).1 _).trans c1⟩
            have KX := fun W hB => KW W hB p k HP.out hkl
            generalize hsq : sqN xss yss p k n % q = sq at *
            have HSQ : Hid (sqN xss yss p k n % q = sq) := hsq
            clear hsq c2 hset M
            go_wp2_with fail
            refine wp_region_held (S := fun V => (∀ o, V.cell? ⟨g, o, none⟩ = (#[.int .i64 q, .slice (some ⟨gv, 0, none⟩) 4 cz] : Array Value)[o]?) ∧ V.cell? ⟨gv, p, none⟩ = some (.slice (some ⟨gr, 0, none⟩) 4 cr)) (by kernel_rfl) ?_
            try (change wpAnyH _ _ _ _ _ _ _ _ (World.drew _))
            have hS := HSS.out _ (Off.refl _ _)
            refine wpAnyH_take (i := 0) (v := .pointer (some ⟨g, 1, none⟩)) rfl (by kernel_rfl) (by kernel_rfl) (by kernel_rfl) (fun _ _ _ h => h) (Or.inl ⟨by rfl, ?_⟩) hS ?_
            · intro w' hSw
              go_simp
            (try simp only [List.getElem_toArray]); (try simp only [List.getElem_cons_succ]); (try simp only [List.getElem_cons_zero]); (try simp only [Act.put]); (try simp only [List.setIfInBounds_toArray]); (try simp only [List.set_cons_succ]); (try simp only [List.set_cons_zero])
            refine wpAnyH_take (i := 1) (v := .slice (some ⟨gv, 0, none⟩) 4 cz) rfl (by kernel_rfl) (by kernel_rfl) (by kernel_rfl) (fun _ _ _ h => h) (Or.inl ⟨by rfl, ?_⟩) hS ?_
            · intro w' hSw
              have h1 := hSw.1 1; have h2 := hSw.2; go_simp
            (try simp only [List.getElem_toArray]); (try simp only [List.getElem_cons_succ]); (try simp only [List.getElem_cons_zero]); (try simp only [Act.put]); (try simp only [List.setIfInBounds_toArray]); (try simp only [List.set_cons_succ]); (try simp only [List.set_cons_zero])
            refine wpAnyH_take (i := 2) (v := .int .i64 p) rfl (by kernel_rfl) (by kernel_rfl) (by kernel_rfl) (fun _ _ _ h => h) (Or.inl ⟨by rfl, ?_⟩) hS ?_
            · intro w' hSw
              go_simp
            (try simp only [List.getElem_toArray]); (try simp only [List.getElem_cons_succ]); (try simp only [List.getElem_cons_zero]); (try simp only [Act.put]); (try simp only [List.setIfInBounds_toArray]); (try simp only [List.set_cons_succ]); (try simp only [List.set_cons_zero])
            refine wpAnyH_take (i := 3) (v := .pointer (some ⟨gv, p, none⟩)) rfl (by kernel_rfl) (by kernel_rfl) (by kernel_rfl) (fun _ _ _ h => h) (Or.inl ⟨by rfl, ?_⟩) hS ?_
            · intro w' hSw
              go_simp
            (try simp only [List.getElem_toArray]); (try simp only [List.getElem_cons_succ]); (try simp only [List.getElem_cons_zero]); (try simp only [Act.put]); (try simp only [List.setIfInBounds_toArray]); (try simp only [List.set_cons_succ]); (try simp only [List.set_cons_zero])
            refine wpAnyH_take (i := 4) (v := .slice (some ⟨gr, 0, none⟩) 4 cr) rfl (by kernel_rfl) (by kernel_rfl) (by kernel_rfl) (fun _ _ _ h => h) (Or.inl ⟨by rfl, ?_⟩) hS ?_
            · intro w' hSw
              have h1 := hSw.1 1; have h2 := hSw.2; go_simp
            (try simp only [List.getElem_toArray]); (try simp only [List.getElem_cons_succ]); (try simp only [List.getElem_cons_zero]); (try simp only [Act.put]); (try simp only [List.setIfInBounds_toArray]); (try simp only [List.set_cons_succ]); (try simp only [List.set_cons_zero])
            refine wpAnyH_take (i := 5) (v := .int .i64 k) rfl (by kernel_rfl) (by kernel_rfl) (by kernel_rfl) (fun _ _ _ h => h) (Or.inl ⟨by rfl, ?_⟩) hS ?_
            · intro w' hSw
              go_simp
            (try simp only [List.getElem_toArray]); (try simp only [List.getElem_cons_succ]); (try simp only [List.getElem_cons_zero]); (try simp only [Act.put]); (try simp only [List.setIfInBounds_toArray]); (try simp only [List.set_cons_succ]); (try simp only [List.set_cons_zero])
            refine wpAnyH_take (i := 6) (v := .int .i64 q) rfl (by kernel_rfl) (by kernel_rfl) (by kernel_rfl) (fun _ _ _ h => h) (Or.inl ⟨by rfl, ?_⟩) hS ?_
            · intro w' hSw
              go_simp
            (try simp only [List.getElem_toArray]); (try simp only [List.getElem_cons_succ]); (try simp only [List.getElem_cons_zero]); (try simp only [Act.put]); (try simp only [List.setIfInBounds_toArray]); (try simp only [List.set_cons_succ]); (try simp only [List.set_cons_zero])
            refine wpAnyH_take (i := 7) (v := v) rfl (by kernel_rfl) (by kernel_rfl) (by kernel_rfl) (fun _ _ _ h => h) (Or.inl ⟨by rfl, ?_⟩) hS ?_
            · intro w' hSw
              go_simp
            (try simp only [List.getElem_toArray]); (try simp only [List.getElem_cons_succ]); (try simp only [List.getElem_cons_zero]); (try simp only [Act.put]); (try simp only [List.setIfInBounds_toArray]); (try simp only [List.set_cons_succ]); (try simp only [List.set_cons_zero])
            refine wpAnyH_take (i := 8) (v := u) rfl (by kernel_rfl) (by kernel_rfl) (by kernel_rfl) (fun _ _ _ h => h) (Or.inl ⟨by rfl, ?_⟩) hS ?_
            · intro w' hSw
              go_simp
            (try simp only [List.getElem_toArray]); (try simp only [List.getElem_cons_succ]); (try simp only [List.getElem_cons_zero]); (try simp only [Act.put]); (try simp only [List.setIfInBounds_toArray]); (try simp only [List.set_cons_succ]); (try simp only [List.set_cons_zero])
            refine wpAnyH_take (i := 9) (v := .int .i64 p) rfl (by kernel_rfl) (by kernel_rfl) (by kernel_rfl) (fun _ _ _ h => h) (Or.inl ⟨by rfl, ?_⟩) hS ?_
            · intro w' hSw
              go_simp
            (try simp only [List.getElem_toArray]); (try simp only [List.getElem_cons_succ]); (try simp only [List.getElem_cons_zero]); (try simp only [Act.put]); (try simp only [List.setIfInBounds_toArray]); (try simp only [List.set_cons_succ]); (try simp only [List.set_cons_zero])
            refine wpAnyH_take (i := 10) (v := .int .i64 k) rfl (by kernel_rfl) (by kernel_rfl) (by kernel_rfl) (fun _ _ _ h => h) (Or.inl ⟨by rfl, ?_⟩) hS ?_
            · intro w' hSw
              go_simp
            (try simp only [List.getElem_toArray]); (try simp only [List.getElem_cons_succ]); (try simp only [List.getElem_cons_zero]); (try simp only [Act.put]); (try simp only [List.setIfInBounds_toArray]); (try simp only [List.set_cons_succ]); (try simp only [List.set_cons_zero])
            refine wpAnyH_ready (rs := [11]) (by kernel_rfl) (by simp) ?_
            refine AllReadyH.cons (o := _) rfl (fun K hK => ?_) AllReadyH.nil
            rw [if_pos (by rfl)]
            go_simp
            go_at_call 107
            refine (KX _ B.drew).mono ?_
            rintro e w5 ⟨rfl, hb5⟩
            dsimp only
            refine hK.out _ _ (HSS.out _ (Off.ofBelow hb5)) (fun hS => ?_)
            clear hK K
            (try simp only [List.getElem_toArray]); (try simp only [List.getElem_cons_succ]); (try simp only [List.getElem_cons_zero]); (try simp only [Act.put]); (try simp only [List.setIfInBounds_toArray]); (try simp only [List.set_cons_succ]); (try simp only [List.set_cons_zero])
            refine wpAnyH_take (i := 12) (v := .pointer (some ⟨gr, k, none⟩)) rfl (by kernel_rfl) (by kernel_rfl) (by kernel_rfl) (fun _ _ _ h => h) (Or.inl ⟨by rfl, ?_⟩) hS ?_
            · intro w' hSw
              go_simp
            (try simp only [List.getElem_toArray]); (try simp only [List.getElem_cons_succ]); (try simp only [List.getElem_cons_zero]); (try simp only [Act.put]); (try simp only [List.setIfInBounds_toArray]); (try simp only [List.set_cons_succ]); (try simp only [List.set_cons_zero])
            have hf5 : w5.frozen? ⟨gr, k, none⟩ = false := (hb5.frozen (p := ⟨gr, k, none⟩) (by simpa using lgr)).trans hf
            have hx5 := (hb5.cell (p := ⟨gr, k, none⟩) (by simpa using lgr)).trans hx
            refine wpAnyH_ready (rs := [13]) (by kernel_rfl) (by simp) ?_
            refine AllReadyH.cons (o := _) rfl (fun K hK => ?_) AllReadyH.nil
            rw [if_pos (by rfl)]
            go_simp
            refine hK.out _ _ (HSS.out _ ((Off.ofBelow hb5).setCell _ _ (.inl (by simp)))) (fun hS => ?_)
            clear hK K
            (try simp only [List.getElem_toArray]); (try simp only [List.getElem_cons_succ]); (try simp only [List.getElem_cons_zero]); (try simp only [Act.put]); (try simp only [List.setIfInBounds_toArray]); (try simp only [List.set_cons_succ]); (try simp only [List.set_cons_zero])
            refine wpAnyH_done (by kernel_rfl) ?_ _
            clear hS
            have hbW : Below wr.heap.size wr w5 := (Below.refl _ _).drew.trans (hb5.mono (by simp))
            have hq5 : Off [gr] w5 (w5.setCell ⟨gr, k, none⟩ (.int .i64 sq)) := (Off.refl _ _).setCell _ _ (.inl (by simp))
            have M6 := HSET.out w5 hbW
            have Y6 := (Y.keep hbW).off hq5 (by simp; omega)
            have Z6 := (Z.keep hbW).off hq5 (by simp; omega)
            have B6 := (B.trans (hbW.mono B.size)).trans (hq5.toBelow (B.trans (hbW.mono B.size)).size (by simp; omega))
            clear HSET HSS hf5 hx5 Y Z B hbW hq5 hb5
            go_wp2
            go_roundw
            case rel => exact ⟨k + 1, by omega, by go_num, Y6, Z6, M6, B6⟩
            case measure => simp [intOf]; omega
        · obtain rfl : k = 4 := by omega
          rw [show p * 4 + 4 = (p + 1) * 4 by omega] at M
          go_wp2
          go_roundw
          case rel => exact ⟨p + 1, by omega, by go_num, Y, Z, M, B⟩
          case measure => simp [intOf]; omega
    · obtain rfl : p = 4 := by omega
      rw [show 4 * 4 = 16 from rfl, begT_all] at M
      go_wp2_with (first | (refine wpList_load_blk rfl 36 _ rfl g rfl Z Tryz.underlying36 rfl (by kernel_rfl) ?_) | (refine wpList_store_blk rfl 36 _ _ rfl w.heap.size #[.int .i64 q, .slice pz 4 cz] rfl rfl Y rfl (by kernel_rfl) (by kernel_rfl) ?_; intro w9 Y9 O9))
      exact bodyPost_ret (v := .agg #[.int .i64 q, .slice pz 4 cz]) (results_blk Tryz.results88 rfl Y9 Tryz.underlying36 rfl (by kernel_rfl)) rfl ⟨_, b0, rfl, M.off O9 (fun y hy hm => by have := HB0.out y hy; simp at hm; omega), fun y hy => by have := HB0.out y hy; omega, B.trans (O9.toBelow B.size (by simp))⟩
end Go.Proofs.YtepobckhfodngaoGreat
