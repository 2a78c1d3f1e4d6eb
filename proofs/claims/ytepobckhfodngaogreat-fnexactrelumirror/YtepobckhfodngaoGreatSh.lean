/-
  Shares in the program: of a mirror; one put to another.
-/
import Derived.Test.YtepobckhfodngaoGreatMirJ
import Derived.Test.YtepobckhfodngaoGreatMirW
import Derived.Test.YtepobckhfodngaoGreatMirX
import Derived.Test.YtepobckhfodngaoGreatMirK
import Derived.Test.YtepobckhfodngaoGreatDotM0
namespace Go.Proofs.YtepobckhfodngaoGreat
open Go.ChangeShapes Go.WideShapes Go.ChangeAt Go.RowKit
set_option linter.unusedVariables false

/-- sixteen numbers put to sixteen, each modulo q -/
def addF (q : Int) (fs gs : List Int) : List Int := (opRows (fun x y => x + y) q (unflat fs) (unflat gs)).flatten
theorem addF_len (q : Int) (fs gs : List Int) : (addF q fs gs).length = 16 := flat_len (opRows_sq _ _ _ _)
/-- sixteen numbers less sixteen, each modulo q -/
def subF (q : Int) (fs gs : List Int) : List Int := (opRows (fun x y => x - y) q (unflat fs) (unflat gs)).flatten
theorem subF_len (q : Int) (fs gs : List Int) : (subF q fs gs).length = 16 := flat_len (opRows_sq _ _ _ _)
theorem unflat_bdS {q : Int} {fs : List Int} (h : Ok16 q fs) (i j : Nat) : 0 ≤ pt (unflat fs) i j ∧ pt (unflat fs) i j < q := by
  have hq := h.2 0
  by_cases k : i < 4 ∧ j < 4
  · rw [pt_unflat fs i j k.1 k.2]; exact h.2 _
  · have : pt (unflat fs) i j = 0 := by
      have hs := unflat_sq fs
      generalize unflat fs = xss at *
      unfold pt
      by_cases hi : i < 4
      · have hj : ¬ j < 4 := fun hj => k ⟨hi, hj⟩
        have hl := hs.2 i hi
        generalize xss.getD i [] = r at hl ⊢
        rw [List.getD_eq_getElem?_getD, List.getElem?_eq_none (by omega)]
        rfl
      · have : xss.getD i [] = [] := by
          rw [List.getD_eq_getElem?_getD, List.getElem?_eq_none (by rw [hs.1]; omega)]
          rfl
        rw [this]
        rfl
    rw [this]
    omega
theorem sh_flat {xss : List (List Int)} (h : Sq xss) : unflat xss.flatten = xss := by
  obtain ⟨a0, a1, a2, a3, b0, b1, b2, b3, c0, c1, c2, c3, d0, d1, d2, d3, rfl⟩ := h.lit
  rfl
theorem sh_ok16 {q : Int} {xss : List (List Int)} (hs : Sq xss) (hb : ∀ i j, 0 ≤ pt xss i j ∧ pt xss i j < q) : Ok16 q xss.flatten := by
  refine ⟨flat_len hs, fun j => ?_⟩
  by_cases hj : j < 16
  · have e : j = j / 4 * 4 + j % 4 := by omega
    have h1 : xss.flatten.getD j 0 = pt xss (j / 4) (j % 4) := by
      rw [e]
      rw [show (j / 4 * 4 + j % 4) / 4 = j / 4 by omega, show (j / 4 * 4 + j % 4) % 4 = j % 4 by omega]
      exact flat_getD hs _ _ (by omega) (by omega)
    rw [h1]
    exact hb _ _
  · have : xss.flatten.getD j 0 = 0 := by
      rw [List.getD_eq_getElem?_getD, List.getElem?_eq_none (by rw [flat_len hs]; omega)]
      rfl
    rw [this]
    have := hb 0 0
    omega
set_option maxHeartbeats 4000000 in
set_option maxRecDepth 100000 in
theorem impl_shareOf (v : Value) (x : MMirror) (w : World) (hv : RdMirror w v x) (hs : Sq x.xViews) :
    Calls Tryz.prog 42 #[v] w fun e w' => e = .returned (.agg (cells1 (x.xQ :: x.xViews.flatten))) ∧ Below w.heap.size w w' := by
  have KV := fun W (hb : Below w.heap.size w W) => impl_viewsOf v x W (hv.below hb) hs
  have HV : Hid (ag2 x.xViews = .agg (cells1 x.xViews.flatten)) := rfl
  rw [HV.out] at KV
  have HL : Hid ((x.xQ :: x.xViews.flatten).length = 17) := by show _ = _; simp only [List.length_cons, flat_len hs]
  obtain ⟨pa, ca, rfl, ga⟩ := hv
  clear ga hs
  have B0 : Below w.heap.size w ((w.alloc (.cells #[.int .i64 x.xQ, .slice pa x.xViews.length ca] 36)).alloc (.cells #[.int .i64 0, .int .i64 0, .int .i64 0, .int .i64 0, .int .i64 0, .int .i64 0, .int .i64 0, .int .i64 0, .int .i64 0, .int .i64 0, .int .i64 0, .int .i64 0, .int .i64 0, .int .i64 0, .int .i64 0, .int .i64 0, .int .i64 0] 87)) := (by repeat (first | exact Below.refl _ _ | refine Below.drew ?_ | refine below_drewN ?_ _ | refine Below.setCell ?_ (by first | omega | (simp; done) | (simp; omega)) _ | refine Below.alloc ?_ (by first | omega | (simp; done) | (simp; omega)) _))
  have X0 : Blk ((w.alloc (.cells #[.int .i64 x.xQ, .slice pa x.xViews.length ca] 36)).alloc (.cells #[.int .i64 0, .int .i64 0, .int .i64 0, .int .i64 0, .int .i64 0, .int .i64 0, .int .i64 0, .int .i64 0, .int .i64 0, .int .i64 0, .int .i64 0, .int .i64 0, .int .i64 0, .int .i64 0, .int .i64 0, .int .i64 0, .int .i64 0] 87)) w.heap.size 36 #[.int .i64 x.xQ, .slice pa x.xViews.length ca] := (Blk.new w _ _).alloc _
  have R0 : Blk ((w.alloc (.cells #[.int .i64 x.xQ, .slice pa x.xViews.length ca] 36)).alloc (.cells #[.int .i64 0, .int .i64 0, .int .i64 0, .int .i64 0, .int .i64 0, .int .i64 0, .int .i64 0, .int .i64 0, .int .i64 0, .int .i64 0, .int .i64 0, .int .i64 0, .int .i64 0, .int .i64 0, .int .i64 0, .int .i64 0, .int .i64 0] 87)) (w.heap.size + 1) 87 #[.int .i64 0, .int .i64 0, .int .i64 0, .int .i64 0, .int .i64 0, .int .i64 0, .int .i64 0, .int .i64 0, .int .i64 0, .int .i64 0, .int .i64 0, .int .i64 0, .int .i64 0, .int .i64 0, .int .i64 0, .int .i64 0, .int .i64 0] := by simpa using Blk.new (w.alloc (.cells #[.int .i64 x.xQ, .slice pa x.xViews.length ca] 36)) 87 #[.int .i64 0, .int .i64 0, .int .i64 0, .int .i64 0, .int .i64 0, .int .i64 0, .int .i64 0, .int .i64 0, .int .i64 0, .int .i64 0, .int .i64 0, .int .i64 0, .int .i64 0, .int .i64 0, .int .i64 0, .int .i64 0, .int .i64 0]
  go_enter Tryz.func42, Tryz.ntmps42
  go_wp2_with fail
  generalize ((w.alloc (.cells #[.int .i64 x.xQ, .slice pa x.xViews.length ca] 36)).alloc (.cells #[.int .i64 0, .int .i64 0, .int .i64 0, .int .i64 0, .int .i64 0, .int .i64 0, .int .i64 0, .int .i64 0, .int .i64 0, .int .i64 0, .int .i64 0, .int .i64 0, .int .i64 0, .int .i64 0, .int .i64 0, .int .i64 0, .int .i64 0] 87)) = w1 at *
  have HF : Hid (x.xViews.flatten.length = 16) := by have := HL.out; simp only [List.length_cons] at this; show _ = _; omega
  generalize hfx : x.xViews.flatten = fx at *
  have HFX : Hid (x.xViews.flatten = fx) := hfx
  clear hfx
  refine wp_region_held (S := fun V => ∀ o, V.cell? ⟨w.heap.size, o, none⟩ = (#[.int .i64 x.xQ, .slice pa x.xViews.length ca] : Array Value)[o]?) (by kernel_rfl) ?_
  try (change wpAnyH _ _ _ _ _ _ _ _ (World.drew _))
  have X1 := X0.drew
  have R1 := R0.drew
  have B1 := B0.drew
  have hS := X1.at.1
  clear X0 R0 B0
  refine wpAnyH_take (i := 0) (v := ?vn1) rfl (by kernel_rfl) (by kernel_rfl) (by kernel_rfl) (fun _ _ _ h => h) (Or.inl ⟨by rfl, ?hn1⟩) hS ?rn1
  case hn1 => intro w' hSw; go_simp; (try with_reducible rfl)
  (try simp only [List.getElem_toArray]); (try simp only [List.getElem_cons_succ]); (try simp only [List.getElem_cons_zero]); (try simp only [Act.put]); (try simp only [List.setIfInBounds_toArray]); (try simp only [List.set_cons_succ]); (try simp only [List.set_cons_zero])
  refine wpAnyH_take (i := 1) (v := ?vn2) rfl (by kernel_rfl) (by kernel_rfl) (by kernel_rfl) (fun _ _ _ h => h) (Or.inl ⟨by rfl, ?hn2⟩) hS ?rn2
  case hn2 => intro w' hSw; go_simp; (try with_reducible rfl)
  (try simp only [List.getElem_toArray]); (try simp only [List.getElem_cons_succ]); (try simp only [List.getElem_cons_zero]); (try simp only [Act.put]); (try simp only [List.setIfInBounds_toArray]); (try simp only [List.set_cons_succ]); (try simp only [List.set_cons_zero])
  refine wpAnyH_take (i := 2) (v := ?vn3) rfl (by kernel_rfl) (by kernel_rfl) (by kernel_rfl) (fun _ _ _ h => h) (Or.inl ⟨by rfl, ?hn3⟩) hS ?rn3
  case hn3 => intro w' hSw; go_simp; (try with_reducible rfl)
  (try simp only [List.getElem_toArray]); (try simp only [List.getElem_cons_succ]); (try simp only [List.getElem_cons_zero]); (try simp only [Act.put]); (try simp only [List.setIfInBounds_toArray]); (try simp only [List.set_cons_succ]); (try simp only [List.set_cons_zero])
  refine wpAnyH_ready (rs := [3]) (by kernel_rfl) (by simp) ?_
  refine AllReadyH.cons (o := _) rfl (fun K hK => ?_) AllReadyH.nil
  rw [if_pos (by rfl)]
  go_simp
  go_at_call 76
  refine (KV _ B1).mono ?_
  rintro e w6 ⟨rfl, hb6⟩
  have X2 := X1.keep hb6
  have R2 := R1.keep hb6
  have B2 := B1.trans (hb6.mono B1.size)
  clear X1 R1 B1 KV hb6
  dsimp only
  refine hK.out _ _ X2.at.1 (fun hS => ?_)
  clear hK K
  (try simp only [List.getElem_toArray]); (try simp only [List.getElem_cons_succ]); (try simp only [List.getElem_cons_zero]); (try simp only [Act.put]); (try simp only [List.setIfInBounds_toArray]); (try simp only [List.set_cons_succ]); (try simp only [List.set_cons_zero])
  refine wpAnyH_take (i := 4) (v := .agg (cells1 (x.xQ :: fx))) rfl (by kernel_rfl) (by kernel_rfl) (by kernel_rfl) (fun _ _ _ h => h) (Or.inl ⟨by rfl, ?_⟩) hS ?_
  · intro w' hSw
    obtain ⟨a0, a1, a2, a3, b0, b1, b2, b3, c0, c1, c2, c3, d0, d1, d2, d3, rfl⟩ := lit16 HF.out
    kernel_rfl
  (try simp only [List.getElem_toArray]); (try simp only [List.getElem_cons_succ]); (try simp only [List.getElem_cons_zero]); (try simp only [Act.put]); (try simp only [List.setIfInBounds_toArray]); (try simp only [List.set_cons_succ]); (try simp only [List.set_cons_zero])
  refine wpAnyH_ready (rs := [5]) (by kernel_rfl) (by simp) ?_
  refine AllReadyH.cons (o := _) rfl (fun K hK => ?_) AllReadyH.nil
  refine step_store_blk rfl 87 _ _ rfl (w.heap.size + 1) (cells1 (x.xQ :: fx)) rfl rfl R2 (by rw [cells1_size, HL.out]; rfl) (by rw [cells1_size, HL.out]; kernel_rfl) (cells1_one _) ?_
  intro w9 R9 O9
  refine hK.out _ _ (X2.off O9 (by simp)).at.1 (fun hS => ?_)
  clear hK K
  (try simp only [List.getElem_toArray]); (try simp only [List.getElem_cons_succ]); (try simp only [List.getElem_cons_zero]); (try simp only [Act.put]); (try simp only [List.setIfInBounds_toArray]); (try simp only [List.set_cons_succ]); (try simp only [List.set_cons_zero])
  refine wpAnyH_done (by kernel_rfl) ?_ _
  clear hS
  try go_wp2
  exact bodyPost_ret (v := .agg (cells1 (x.xQ :: fx))) (results_blk Tryz.results42 rfl R9 Tryz.underlying87 rfl (by rw [cells1_size, HL.out]; kernel_rfl)) rfl ⟨by rw [HFX.out], B2.trans (O9.toBelow B2.size (by simp))⟩
set_option maxHeartbeats 4000000 in
set_option maxRecDepth 100000 in
theorem impl_share_plus (q q2 : Int) (fs gs : List Int) (w : World) (hq : isQ q) (hf : Ok16 q fs) (hg : Ok16 q gs) :
    Calls Tryz.prog 121 #[.agg (cells1 (q :: fs)), .agg (cells1 (q2 :: gs))] w fun e w' => e = .returned (.agg (cells1 (q :: addF q fs gs))) ∧ Below w.heap.size w w' := by
  have KJ := fun W => impl_join_AddRing q (unflat fs) (unflat gs) W (unflat_sq fs) (unflat_sq gs) hq (unflat_bdS hf) (unflat_bdS hg)
  have ef : ag2 (unflat fs) = .agg (cells1 fs) := by show Value.agg (cells1 (unflat fs).flatten) = _; rw [unflat_flat hf.1]
  have eg : ag2 (unflat gs) = .agg (cells1 gs) := by show Value.agg (cells1 (unflat gs).flatten) = _; rw [unflat_flat hg.1]
  rw [ef, eg] at KJ
  have HA : Hid (ag2 (opRows (fun x y => x + y) q (unflat fs) (unflat gs)) = .agg (cells1 (addF q fs gs))) := rfl
  rw [HA.out] at KJ
  have HF : Hid (fs.length = 16) := hf.1
  have HG : Hid (gs.length = 16) := hg.1
  have HAF : Hid ((addF q fs gs).length = 16) := addF_len q fs gs
  clear ef eg hf hg hq HA
  generalize addF q fs gs = rs at *
  have HL : Hid ((q :: rs).length = 17) := by show _ = _; simp only [List.length_cons, HAF.out]
  have X0 : Blk (((w.alloc (.cells (cells1 (q :: fs)) 87)).alloc (.cells (cells1 (q2 :: gs)) 87)).alloc (.cells #[.int .i64 0, .int .i64 0, .int .i64 0, .int .i64 0, .int .i64 0, .int .i64 0, .int .i64 0, .int .i64 0, .int .i64 0, .int .i64 0, .int .i64 0, .int .i64 0, .int .i64 0, .int .i64 0, .int .i64 0, .int .i64 0, .int .i64 0] 87)) w.heap.size 87 (cells1 (q :: fs)) := ((Blk.new w _ _).alloc _).alloc _
  have Y0 : Blk (((w.alloc (.cells (cells1 (q :: fs)) 87)).alloc (.cells (cells1 (q2 :: gs)) 87)).alloc (.cells #[.int .i64 0, .int .i64 0, .int .i64 0, .int .i64 0, .int .i64 0, .int .i64 0, .int .i64 0, .int .i64 0, .int .i64 0, .int .i64 0, .int .i64 0, .int .i64 0, .int .i64 0, .int .i64 0, .int .i64 0, .int .i64 0, .int .i64 0] 87)) (w.heap.size + 1) 87 (cells1 (q2 :: gs)) := by simpa using (Blk.new (w.alloc (.cells (cells1 (q :: fs)) 87)) 87 (cells1 (q2 :: gs))).alloc (.cells #[.int .i64 0, .int .i64 0, .int .i64 0, .int .i64 0, .int .i64 0, .int .i64 0, .int .i64 0, .int .i64 0, .int .i64 0, .int .i64 0, .int .i64 0, .int .i64 0, .int .i64 0, .int .i64 0, .int .i64 0, .int .i64 0, .int .i64 0] 87)
  have R0 : Blk (((w.alloc (.cells (cells1 (q :: fs)) 87)).alloc (.cells (cells1 (q2 :: gs)) 87)).alloc (.cells #[.int .i64 0, .int .i64 0, .int .i64 0, .int .i64 0, .int .i64 0, .int .i64 0, .int .i64 0, .int .i64 0, .int .i64 0, .int .i64 0, .int .i64 0, .int .i64 0, .int .i64 0, .int .i64 0, .int .i64 0, .int .i64 0, .int .i64 0] 87)) (w.heap.size + 1 + 1) 87 #[.int .i64 0, .int .i64 0, .int .i64 0, .int .i64 0, .int .i64 0, .int .i64 0, .int .i64 0, .int .i64 0, .int .i64 0, .int .i64 0, .int .i64 0, .int .i64 0, .int .i64 0, .int .i64 0, .int .i64 0, .int .i64 0, .int .i64 0] := by simpa using Blk.new ((w.alloc (.cells (cells1 (q :: fs)) 87)).alloc (.cells (cells1 (q2 :: gs)) 87)) 87 #[.int .i64 0, .int .i64 0, .int .i64 0, .int .i64 0, .int .i64 0, .int .i64 0, .int .i64 0, .int .i64 0, .int .i64 0, .int .i64 0, .int .i64 0, .int .i64 0, .int .i64 0, .int .i64 0, .int .i64 0, .int .i64 0, .int .i64 0]
  have B0 : Below w.heap.size w (((w.alloc (.cells (cells1 (q :: fs)) 87)).alloc (.cells (cells1 (q2 :: gs)) 87)).alloc (.cells #[.int .i64 0, .int .i64 0, .int .i64 0, .int .i64 0, .int .i64 0, .int .i64 0, .int .i64 0, .int .i64 0, .int .i64 0, .int .i64 0, .int .i64 0, .int .i64 0, .int .i64 0, .int .i64 0, .int .i64 0, .int .i64 0, .int .i64 0] 87)) := (by repeat (first | exact Below.refl _ _ | refine Below.drew ?_ | refine below_drewN ?_ _ | refine Below.setCell ?_ (by first | omega | (simp; done) | (simp; omega)) _ | refine Below.alloc ?_ (by first | omega | (simp; done) | (simp; omega)) _))
  have HRG : Hid (∀ (V : World) (b : Nat) (z : Int) (l : List Int), Blk V b 87 (cells1 (z :: l)) → V.cell? ⟨b, 0, none⟩ = some (.int .i64 z) ∧ V.rangeAt b 1 (cells1 l).toList) := fun V b z l hB => ⟨by have := hB.one 0 (by simp); simpa using this, fun j v hv => by rw [hB.at.1, ← hv]; simp [cells1, Nat.add_comm 1 j]⟩
  go_enter Tryz.func121, Tryz.ntmps121
  go_wp2_with fail
  generalize (((w.alloc (.cells (cells1 (q :: fs)) 87)).alloc (.cells (cells1 (q2 :: gs)) 87)).alloc (.cells #[.int .i64 0, .int .i64 0, .int .i64 0, .int .i64 0, .int .i64 0, .int .i64 0, .int .i64 0, .int .i64 0, .int .i64 0, .int .i64 0, .int .i64 0, .int .i64 0, .int .i64 0, .int .i64 0, .int .i64 0, .int .i64 0, .int .i64 0] 87)) = w1 at *
  refine wp_region_held (S := fun V => V.cell? ⟨w.heap.size, 0, none⟩ = some (.int .i64 q) ∧ V.rangeAt w.heap.size 1 (cells1 fs).toList ∧ V.rangeAt (w.heap.size + 1) 1 (cells1 gs).toList) (by kernel_rfl) ?_
  try (change wpAnyH _ _ _ _ _ _ _ _ (World.drew _))
  have X1 := X0.drew
  have Y1 := Y0.drew
  have R1 := R0.drew
  have B1 := B0.drew
  have hS : w1.drew.cell? ⟨w.heap.size, 0, none⟩ = some (.int .i64 q) ∧ w1.drew.rangeAt w.heap.size 1 (cells1 fs).toList ∧ w1.drew.rangeAt (w.heap.size + 1) 1 (cells1 gs).toList := ⟨(HRG.out _ _ _ _ X1).1, (HRG.out _ _ _ _ X1).2, (HRG.out _ _ _ _ Y1).2⟩
  clear X0 Y0 R0 B0
  refine wpAnyH_take (i := 0) (v := ?vn4) rfl (by kernel_rfl) (by kernel_rfl) (by kernel_rfl) (fun _ _ _ h => h) (Or.inl ⟨by rfl, ?hn4⟩) hS ?rn4
  case hn4 => intro w' hSw; have hc := hSw.1; clear hSw; go_simp; (try with_reducible rfl)
  (try simp only [List.getElem_toArray]); (try simp only [List.getElem_cons_succ]); (try simp only [List.getElem_cons_zero]); (try simp only [Act.put]); (try simp only [List.setIfInBounds_toArray]); (try simp only [List.set_cons_succ]); (try simp only [List.set_cons_zero])
  refine wpAnyH_take (i := 1) (v := ?vn5) rfl (by kernel_rfl) (by kernel_rfl) (by kernel_rfl) (fun _ _ _ h => h) (Or.inl ⟨by rfl, ?hn5⟩) hS ?rn5
  case hn5 => intro w' hSw; have hc := hSw.1; clear hSw; go_simp; (try with_reducible rfl)
  (try simp only [List.getElem_toArray]); (try simp only [List.getElem_cons_succ]); (try simp only [List.getElem_cons_zero]); (try simp only [Act.put]); (try simp only [List.setIfInBounds_toArray]); (try simp only [List.set_cons_succ]); (try simp only [List.set_cons_zero])
  refine wpAnyH_take (i := 2) (v := ?vn6) rfl (by kernel_rfl) (by kernel_rfl) (by kernel_rfl) (fun _ _ _ h => h) (Or.inl ⟨by rfl, ?hn6⟩) hS ?rn6
  case hn6 => intro w' hSw; have hc := hSw.1; clear hSw; go_simp; (try with_reducible rfl)
  (try simp only [List.getElem_toArray]); (try simp only [List.getElem_cons_succ]); (try simp only [List.getElem_cons_zero]); (try simp only [Act.put]); (try simp only [List.setIfInBounds_toArray]); (try simp only [List.set_cons_succ]); (try simp only [List.set_cons_zero])
  refine wpAnyH_take (i := 3) (v := .agg (cells1 fs)) rfl (by kernel_rfl) (by kernel_rfl) (by kernel_rfl) (fun _ _ _ h => h) (yieldsIf_load_mid (by rfl) _ _ rfl w.heap.size 1 rfl (cells1 fs).toList _ (fun _ h => h.2.1) Tryz.underlying85 rfl (by rw [Array.length_toList, cells1_size, HF.out]; kernel_rfl)) hS ?_
  (try simp only [List.getElem_toArray]); (try simp only [List.getElem_cons_succ]); (try simp only [List.getElem_cons_zero]); (try simp only [Act.put]); (try simp only [List.setIfInBounds_toArray]); (try simp only [List.set_cons_succ]); (try simp only [List.set_cons_zero])
  refine wpAnyH_take (i := 4) (v := ?vn7) rfl (by kernel_rfl) (by kernel_rfl) (by kernel_rfl) (fun _ _ _ h => h) (Or.inl ⟨by rfl, ?hn7⟩) hS ?rn7
  case hn7 => intro w' hSw; have hc := hSw.1; clear hSw; go_simp; (try with_reducible rfl)
  (try simp only [List.getElem_toArray]); (try simp only [List.getElem_cons_succ]); (try simp only [List.getElem_cons_zero]); (try simp only [Act.put]); (try simp only [List.setIfInBounds_toArray]); (try simp only [List.set_cons_succ]); (try simp only [List.set_cons_zero])
  refine wpAnyH_take (i := 5) (v := ?vn8) rfl (by kernel_rfl) (by kernel_rfl) (by kernel_rfl) (fun _ _ _ h => h) (Or.inl ⟨by rfl, ?hn8⟩) hS ?rn8
  case hn8 => intro w' hSw; have hc := hSw.1; clear hSw; go_simp; (try with_reducible rfl)
  (try simp only [List.getElem_toArray]); (try simp only [List.getElem_cons_succ]); (try simp only [List.getElem_cons_zero]); (try simp only [Act.put]); (try simp only [List.setIfInBounds_toArray]); (try simp only [List.set_cons_succ]); (try simp only [List.set_cons_zero])
  refine wpAnyH_take (i := 6) (v := ?vn9) rfl (by kernel_rfl) (by kernel_rfl) (by kernel_rfl) (fun _ _ _ h => h) (Or.inl ⟨by rfl, ?hn9⟩) hS ?rn9
  case hn9 => intro w' hSw; have hc := hSw.1; clear hSw; go_simp; (try with_reducible rfl)
  (try simp only [List.getElem_toArray]); (try simp only [List.getElem_cons_succ]); (try simp only [List.getElem_cons_zero]); (try simp only [Act.put]); (try simp only [List.setIfInBounds_toArray]); (try simp only [List.set_cons_succ]); (try simp only [List.set_cons_zero])
  refine wpAnyH_take (i := 7) (v := .agg (cells1 gs)) rfl (by kernel_rfl) (by kernel_rfl) (by kernel_rfl) (fun _ _ _ h => h) (yieldsIf_load_mid (by rfl) _ _ rfl (w.heap.size + 1) 1 rfl (cells1 gs).toList _ (fun _ h => h.2.2) Tryz.underlying85 rfl (by rw [Array.length_toList, cells1_size, HG.out]; kernel_rfl)) hS ?_
  (try simp only [List.getElem_toArray]); (try simp only [List.getElem_cons_succ]); (try simp only [List.getElem_cons_zero]); (try simp only [Act.put]); (try simp only [List.setIfInBounds_toArray]); (try simp only [List.set_cons_succ]); (try simp only [List.set_cons_zero])
  refine wpAnyH_ready (rs := [8]) (by kernel_rfl) (by simp) ?_
  refine AllReadyH.cons (o := _) rfl (fun K hK => ?_) AllReadyH.nil
  rw [if_pos (by rfl)]
  go_simp
  go_at_call 122
  refine (KJ _).mono ?_
  rintro e w6 ⟨rfl, hb6⟩
  have X2 := X1.keep hb6
  have Y2 := Y1.keep hb6
  have R2 := R1.keep hb6
  have B2 := B1.trans (hb6.mono B1.size)
  clear X1 Y1 R1 B1 KJ hb6
  dsimp only
  refine hK.out _ _ ⟨(HRG.out _ _ _ _ X2).1, (HRG.out _ _ _ _ X2).2, (HRG.out _ _ _ _ Y2).2⟩ (fun hS => ?_)
  clear hK K
  (try simp only [List.getElem_toArray]); (try simp only [List.getElem_cons_succ]); (try simp only [List.getElem_cons_zero]); (try simp only [Act.put]); (try simp only [List.setIfInBounds_toArray]); (try simp only [List.set_cons_succ]); (try simp only [List.set_cons_zero])
  refine wpAnyH_take (i := 9) (v := .agg (cells1 (q :: rs))) rfl (by kernel_rfl) (by kernel_rfl) (by kernel_rfl) (fun _ _ _ h => h) (Or.inl ⟨by rfl, ?_⟩) hS ?_
  · intro w' hSw
    clear hS hSw X2 Y2 R2 B2 HRG
    obtain ⟨a0, a1, a2, a3, b0, b1, b2, b3, c0, c1, c2, c3, d0, d1, d2, d3, rfl⟩ := lit16 HAF.out
    kernel_rfl
  (try simp only [List.getElem_toArray]); (try simp only [List.getElem_cons_succ]); (try simp only [List.getElem_cons_zero]); (try simp only [Act.put]); (try simp only [List.setIfInBounds_toArray]); (try simp only [List.set_cons_succ]); (try simp only [List.set_cons_zero])
  refine wpAnyH_ready (rs := [10]) (by kernel_rfl) (by simp) ?_
  refine AllReadyH.cons (o := _) rfl (fun K hK => ?_) AllReadyH.nil
  refine step_store_blk rfl 87 _ _ rfl (w.heap.size + 1 + 1) (cells1 (q :: rs)) rfl rfl R2 (by rw [cells1_size, HL.out]; rfl) (by rw [cells1_size, HL.out]; kernel_rfl) (cells1_one _) ?_
  intro w9 R9 O9
  refine hK.out _ _ ⟨(HRG.out _ _ _ _ (X2.off O9 (by simp; omega))).1, (HRG.out _ _ _ _ (X2.off O9 (by simp; omega))).2, (HRG.out _ _ _ _ (Y2.off O9 (by simp))).2⟩ (fun hS => ?_)
  clear hK K
  (try simp only [List.getElem_toArray]); (try simp only [List.getElem_cons_succ]); (try simp only [List.getElem_cons_zero]); (try simp only [Act.put]); (try simp only [List.setIfInBounds_toArray]); (try simp only [List.set_cons_succ]); (try simp only [List.set_cons_zero])
  refine wpAnyH_done (by kernel_rfl) ?_ _
  clear hS
  try go_wp2
  exact bodyPost_ret (v := .agg (cells1 (q :: rs))) (results_blk Tryz.results121 rfl R9 Tryz.underlying87 rfl (by rw [cells1_size, HL.out]; kernel_rfl)) rfl ⟨rfl, B2.trans (O9.toBelow B2.size (by simp; omega))⟩
set_option maxHeartbeats 4000000 in
set_option maxRecDepth 100000 in
theorem impl_share_minus (q q2 : Int) (fs gs : List Int) (w : World) (hq : isQ q) (hf : Ok16 q fs) (hg : Ok16 q gs) :
    Calls Tryz.prog 96 #[.agg (cells1 (q :: fs)), .agg (cells1 (q2 :: gs))] w fun e w' => e = .returned (.agg (cells1 (q :: subF q fs gs))) ∧ Below w.heap.size w w' := by
  have KJ := fun W => impl_join_SubRing q (unflat fs) (unflat gs) W (unflat_sq fs) (unflat_sq gs) hq (unflat_bdS hf) (unflat_bdS hg)
  have ef : ag2 (unflat fs) = .agg (cells1 fs) := by show Value.agg (cells1 (unflat fs).flatten) = _; rw [unflat_flat hf.1]
  have eg : ag2 (unflat gs) = .agg (cells1 gs) := by show Value.agg (cells1 (unflat gs).flatten) = _; rw [unflat_flat hg.1]
  rw [ef, eg] at KJ
  have HA : Hid (ag2 (opRows (fun x y => x - y) q (unflat fs) (unflat gs)) = .agg (cells1 (subF q fs gs))) := rfl
  rw [HA.out] at KJ
  have HF : Hid (fs.length = 16) := hf.1
  have HG : Hid (gs.length = 16) := hg.1
  have HAF : Hid ((subF q fs gs).length = 16) := subF_len q fs gs
  clear ef eg hf hg hq HA
  generalize subF q fs gs = rs at *
  have HL : Hid ((q :: rs).length = 17) := by show _ = _; simp only [List.length_cons, HAF.out]
  have X0 : Blk (((w.alloc (.cells (cells1 (q :: fs)) 87)).alloc (.cells (cells1 (q2 :: gs)) 87)).alloc (.cells #[.int .i64 0, .int .i64 0, .int .i64 0, .int .i64 0, .int .i64 0, .int .i64 0, .int .i64 0, .int .i64 0, .int .i64 0, .int .i64 0, .int .i64 0, .int .i64 0, .int .i64 0, .int .i64 0, .int .i64 0, .int .i64 0, .int .i64 0] 87)) w.heap.size 87 (cells1 (q :: fs)) := ((Blk.new w _ _).alloc _).alloc _
  have Y0 : Blk (((w.alloc (.cells (cells1 (q :: fs)) 87)).alloc (.cells (cells1 (q2 :: gs)) 87)).alloc (.cells #[.int .i64 0, .int .i64 0, .int .i64 0, .int .i64 0, .int .i64 0, .int .i64 0, .int .i64 0, .int .i64 0, .int .i64 0, .int .i64 0, .int .i64 0, .int .i64 0, .int .i64 0, .int .i64 0, .int .i64 0, .int .i64 0, .int .i64 0] 87)) (w.heap.size + 1) 87 (cells1 (q2 :: gs)) := by simpa using (Blk.new (w.alloc (.cells (cells1 (q :: fs)) 87)) 87 (cells1 (q2 :: gs))).alloc (.cells #[.int .i64 0, .int .i64 0, .int .i64 0, .int .i64 0, .int .i64 0, .int .i64 0, .int .i64 0, .int .i64 0, .int .i64 0, .int .i64 0, .int .i64 0, .int .i64 0, .int .i64 0, .int .i64 0, .int .i64 0, .int .i64 0, .int .i64 0] 87)
  have R0 : Blk (((w.alloc (.cells (cells1 (q :: fs)) 87)).alloc (.cells (cells1 (q2 :: gs)) 87)).alloc (.cells #[.int .i64 0, .int .i64 0, .int .i64 0, .int .i64 0, .int .i64 0, .int .i64 0, .int .i64 0, .int .i64 0, .int .i64 0, .int .i64 0, .int .i64 0, .int .i64 0, .int .i64 0, .int .i64 0, .int .i64 0, .int .i64 0, .int .i64 0] 87)) (w.heap.size + 1 + 1) 87 #[.int .i64 0, .int .i64 0, .int .i64 0, .int .i64 0, .int .i64 0, .int .i64 0, .int .i64 0, .int .i64 0, .int .i64 0, .int .i64 0, .int .i64 0, .int .i64 0, .int .i64 0, .int .i64 0, .int .i64 0, .int .i64 0, .int .i64 0] := by simpa using Blk.new ((w.alloc (.cells (cells1 (q :: fs)) 87)).alloc (.cells (cells1 (q2 :: gs)) 87)) 87 #[.int .i64 0, .int .i64 0, .int .i64 0, .int .i64 0, .int .i64 0, .int .i64 0, .int .i64 0, .int .i64 0, .int .i64 0, .int .i64 0, .int .i64 0, .int .i64 0, .int .i64 0, .int .i64 0, .int .i64 0, .int .i64 0, .int .i64 0]
  have B0 : Below w.heap.size w (((w.alloc (.cells (cells1 (q :: fs)) 87)).alloc (.cells (cells1 (q2 :: gs)) 87)).alloc (.cells #[.int .i64 0, .int .i64 0, .int .i64 0, .int .i64 0, .int .i64 0, .int .i64 0, .int .i64 0, .int .i64 0, .int .i64 0, .int .i64 0, .int .i64 0, .int .i64 0, .int .i64 0, .int .i64 0, .int .i64 0, .int .i64 0, .int .i64 0] 87)) := (by repeat (first | exact Below.refl _ _ | refine Below.drew ?_ | refine below_drewN ?_ _ | refine Below.setCell ?_ (by first | omega | (simp; done) | (simp; omega)) _ | refine Below.alloc ?_ (by first | omega | (simp; done) | (simp; omega)) _))
  have HRG : Hid (∀ (V : World) (b : Nat) (z : Int) (l : List Int), Blk V b 87 (cells1 (z :: l)) → V.cell? ⟨b, 0, none⟩ = some (.int .i64 z) ∧ V.rangeAt b 1 (cells1 l).toList) := fun V b z l hB => ⟨by have := hB.one 0 (by simp); simpa using this, fun j v hv => by rw [hB.at.1, ← hv]; simp [cells1, Nat.add_comm 1 j]⟩
  go_enter Tryz.func96, Tryz.ntmps96
  go_wp2_with fail
  generalize (((w.alloc (.cells (cells1 (q :: fs)) 87)).alloc (.cells (cells1 (q2 :: gs)) 87)).alloc (.cells #[.int .i64 0, .int .i64 0, .int .i64 0, .int .i64 0, .int .i64 0, .int .i64 0, .int .i64 0, .int .i64 0, .int .i64 0, .int .i64 0, .int .i64 0, .int .i64 0, .int .i64 0, .int .i64 0, .int .i64 0, .int .i64 0, .int .i64 0] 87)) = w1 at *
  refine wp_region_held (S := fun V => V.cell? ⟨w.heap.size, 0, none⟩ = some (.int .i64 q) ∧ V.rangeAt w.heap.size 1 (cells1 fs).toList ∧ V.rangeAt (w.heap.size + 1) 1 (cells1 gs).toList) (by kernel_rfl) ?_
  try (change wpAnyH _ _ _ _ _ _ _ _ (World.drew _))
  have X1 := X0.drew
  have Y1 := Y0.drew
  have R1 := R0.drew
  have B1 := B0.drew
  have hS : w1.drew.cell? ⟨w.heap.size, 0, none⟩ = some (.int .i64 q) ∧ w1.drew.rangeAt w.heap.size 1 (cells1 fs).toList ∧ w1.drew.rangeAt (w.heap.size + 1) 1 (cells1 gs).toList := ⟨(HRG.out _ _ _ _ X1).1, (HRG.out _ _ _ _ X1).2, (HRG.out _ _ _ _ Y1).2⟩
  clear X0 Y0 R0 B0
  refine wpAnyH_take (i := 0) (v := ?vm4) rfl (by kernel_rfl) (by kernel_rfl) (by kernel_rfl) (fun _ _ _ h => h) (Or.inl ⟨by rfl, ?hn4⟩) hS ?rn4
  case hn4 => intro w' hSw; have hc := hSw.1; clear hSw; go_simp; (try with_reducible rfl)
  (try simp only [List.getElem_toArray]); (try simp only [List.getElem_cons_succ]); (try simp only [List.getElem_cons_zero]); (try simp only [Act.put]); (try simp only [List.setIfInBounds_toArray]); (try simp only [List.set_cons_succ]); (try simp only [List.set_cons_zero])
  refine wpAnyH_take (i := 1) (v := ?vm5) rfl (by kernel_rfl) (by kernel_rfl) (by kernel_rfl) (fun _ _ _ h => h) (Or.inl ⟨by rfl, ?hn5⟩) hS ?rn5
  case hn5 => intro w' hSw; have hc := hSw.1; clear hSw; go_simp; (try with_reducible rfl)
  (try simp only [List.getElem_toArray]); (try simp only [List.getElem_cons_succ]); (try simp only [List.getElem_cons_zero]); (try simp only [Act.put]); (try simp only [List.setIfInBounds_toArray]); (try simp only [List.set_cons_succ]); (try simp only [List.set_cons_zero])
  refine wpAnyH_take (i := 2) (v := ?vm6) rfl (by kernel_rfl) (by kernel_rfl) (by kernel_rfl) (fun _ _ _ h => h) (Or.inl ⟨by rfl, ?hn6⟩) hS ?rn6
  case hn6 => intro w' hSw; have hc := hSw.1; clear hSw; go_simp; (try with_reducible rfl)
  (try simp only [List.getElem_toArray]); (try simp only [List.getElem_cons_succ]); (try simp only [List.getElem_cons_zero]); (try simp only [Act.put]); (try simp only [List.setIfInBounds_toArray]); (try simp only [List.set_cons_succ]); (try simp only [List.set_cons_zero])
  refine wpAnyH_take (i := 3) (v := .agg (cells1 fs)) rfl (by kernel_rfl) (by kernel_rfl) (by kernel_rfl) (fun _ _ _ h => h) (yieldsIf_load_mid (by rfl) _ _ rfl w.heap.size 1 rfl (cells1 fs).toList _ (fun _ h => h.2.1) Tryz.underlying85 rfl (by rw [Array.length_toList, cells1_size, HF.out]; kernel_rfl)) hS ?_
  (try simp only [List.getElem_toArray]); (try simp only [List.getElem_cons_succ]); (try simp only [List.getElem_cons_zero]); (try simp only [Act.put]); (try simp only [List.setIfInBounds_toArray]); (try simp only [List.set_cons_succ]); (try simp only [List.set_cons_zero])
  refine wpAnyH_take (i := 4) (v := ?vm7) rfl (by kernel_rfl) (by kernel_rfl) (by kernel_rfl) (fun _ _ _ h => h) (Or.inl ⟨by rfl, ?hn7⟩) hS ?rn7
  case hn7 => intro w' hSw; have hc := hSw.1; clear hSw; go_simp; (try with_reducible rfl)
  (try simp only [List.getElem_toArray]); (try simp only [List.getElem_cons_succ]); (try simp only [List.getElem_cons_zero]); (try simp only [Act.put]); (try simp only [List.setIfInBounds_toArray]); (try simp only [List.set_cons_succ]); (try simp only [List.set_cons_zero])
  refine wpAnyH_take (i := 5) (v := ?vm8) rfl (by kernel_rfl) (by kernel_rfl) (by kernel_rfl) (fun _ _ _ h => h) (Or.inl ⟨by rfl, ?hn8⟩) hS ?rn8
  case hn8 => intro w' hSw; have hc := hSw.1; clear hSw; go_simp; (try with_reducible rfl)
  (try simp only [List.getElem_toArray]); (try simp only [List.getElem_cons_succ]); (try simp only [List.getElem_cons_zero]); (try simp only [Act.put]); (try simp only [List.setIfInBounds_toArray]); (try simp only [List.set_cons_succ]); (try simp only [List.set_cons_zero])
  refine wpAnyH_take (i := 6) (v := ?vm9) rfl (by kernel_rfl) (by kernel_rfl) (by kernel_rfl) (fun _ _ _ h => h) (Or.inl ⟨by rfl, ?hn9⟩) hS ?rn9
  case hn9 => intro w' hSw; have hc := hSw.1; clear hSw; go_simp; (try with_reducible rfl)
  (try simp only [List.getElem_toArray]); (try simp only [List.getElem_cons_succ]); (try simp only [List.getElem_cons_zero]); (try simp only [Act.put]); (try simp only [List.setIfInBounds_toArray]); (try simp only [List.set_cons_succ]); (try simp only [List.set_cons_zero])
  refine wpAnyH_take (i := 7) (v := .agg (cells1 gs)) rfl (by kernel_rfl) (by kernel_rfl) (by kernel_rfl) (fun _ _ _ h => h) (yieldsIf_load_mid (by rfl) _ _ rfl (w.heap.size + 1) 1 rfl (cells1 gs).toList _ (fun _ h => h.2.2) Tryz.underlying85 rfl (by rw [Array.length_toList, cells1_size, HG.out]; kernel_rfl)) hS ?_
  (try simp only [List.getElem_toArray]); (try simp only [List.getElem_cons_succ]); (try simp only [List.getElem_cons_zero]); (try simp only [Act.put]); (try simp only [List.setIfInBounds_toArray]); (try simp only [List.set_cons_succ]); (try simp only [List.set_cons_zero])
  refine wpAnyH_ready (rs := [8]) (by kernel_rfl) (by simp) ?_
  refine AllReadyH.cons (o := _) rfl (fun K hK => ?_) AllReadyH.nil
  rw [if_pos (by rfl)]
  go_simp
  go_at_call 122
  refine (KJ _).mono ?_
  rintro e w6 ⟨rfl, hb6⟩
  have X2 := X1.keep hb6
  have Y2 := Y1.keep hb6
  have R2 := R1.keep hb6
  have B2 := B1.trans (hb6.mono B1.size)
  clear X1 Y1 R1 B1 KJ hb6
  dsimp only
  refine hK.out _ _ ⟨(HRG.out _ _ _ _ X2).1, (HRG.out _ _ _ _ X2).2, (HRG.out _ _ _ _ Y2).2⟩ (fun hS => ?_)
  clear hK K
  (try simp only [List.getElem_toArray]); (try simp only [List.getElem_cons_succ]); (try simp only [List.getElem_cons_zero]); (try simp only [Act.put]); (try simp only [List.setIfInBounds_toArray]); (try simp only [List.set_cons_succ]); (try simp only [List.set_cons_zero])
  refine wpAnyH_take (i := 9) (v := .agg (cells1 (q :: rs))) rfl (by kernel_rfl) (by kernel_rfl) (by kernel_rfl) (fun _ _ _ h => h) (Or.inl ⟨by rfl, ?_⟩) hS ?_
  · intro w' hSw
    clear hS hSw X2 Y2 R2 B2 HRG
    obtain ⟨a0, a1, a2, a3, b0, b1, b2, b3, c0, c1, c2, c3, d0, d1, d2, d3, rfl⟩ := lit16 HAF.out
    kernel_rfl
  (try simp only [List.getElem_toArray]); (try simp only [List.getElem_cons_succ]); (try simp only [List.getElem_cons_zero]); (try simp only [Act.put]); (try simp only [List.setIfInBounds_toArray]); (try simp only [List.set_cons_succ]); (try simp only [List.set_cons_zero])
  refine wpAnyH_ready (rs := [10]) (by kernel_rfl) (by simp) ?_
  refine AllReadyH.cons (o := _) rfl (fun K hK => ?_) AllReadyH.nil
  refine step_store_blk rfl 87 _ _ rfl (w.heap.size + 1 + 1) (cells1 (q :: rs)) rfl rfl R2 (by rw [cells1_size, HL.out]; rfl) (by rw [cells1_size, HL.out]; kernel_rfl) (cells1_one _) ?_
  intro w9 R9 O9
  refine hK.out _ _ ⟨(HRG.out _ _ _ _ (X2.off O9 (by simp; omega))).1, (HRG.out _ _ _ _ (X2.off O9 (by simp; omega))).2, (HRG.out _ _ _ _ (Y2.off O9 (by simp))).2⟩ (fun hS => ?_)
  clear hK K
  (try simp only [List.getElem_toArray]); (try simp only [List.getElem_cons_succ]); (try simp only [List.getElem_cons_zero]); (try simp only [Act.put]); (try simp only [List.setIfInBounds_toArray]); (try simp only [List.set_cons_succ]); (try simp only [List.set_cons_zero])
  refine wpAnyH_done (by kernel_rfl) ?_ _
  clear hS
  try go_wp2
  exact bodyPost_ret (v := .agg (cells1 (q :: rs))) (results_blk Tryz.results96 rfl R9 Tryz.underlying87 rfl (by rw [cells1_size, HL.out]; kernel_rfl)) rfl ⟨rfl, B2.trans (O9.toBelow B2.size (by simp; omega))⟩
theorem fieldMrR_1 (x y z : Value) (w : World) : (Instr.field 102 (.agg #[x, y, z]) 1).run Tryz.prog w = .ok (.agg #[y, z]) w := by kernel_rfl
set_option maxHeartbeats 2000000 in
set_option maxRecDepth 100000 in
theorem impl_share_result (q : Int) (fs : List Int) (w : World) (hl : fs.length = 16) :
    Calls Tryz.prog 57 #[.agg (cells1 (q :: fs))] w fun e w' => ∃ u b0, e = .returned u ∧ OwMirrorResult w' u ⟨0, ⟨q, unflat fs⟩⟩ b0 ∧ (∀ y ∈ b0, w.heap.size ≤ y) ∧ Below w.heap.size w w' := by
  have HL : Hid (fs.length = 16) := hl
  have KR := fun W => impl_views_result q (unflat fs) W (unflat_sq fs)
  have ea : ag2 (unflat fs) = .agg (cells1 fs) := by
    show Value.agg (cells1 (unflat fs).flatten) = _
    rw [unflat_flat hl]
  rw [ea] at KR
  clear ea hl
  have X0 : Blk ((w.alloc (.cells (cells1 (q :: fs)) 87)).alloc (.cells #[.int .i64 0, .int .i64 0, .slice none 0 0] 102)) w.heap.size 87 (cells1 (q :: fs)) := (Blk.new w _ _).alloc _
  have R0 : Blk ((w.alloc (.cells (cells1 (q :: fs)) 87)).alloc (.cells #[.int .i64 0, .int .i64 0, .slice none 0 0] 102)) (w.heap.size + 1) 102 #[.int .i64 0, .int .i64 0, .slice none 0 0] := by simpa using Blk.new (w.alloc (.cells (cells1 (q :: fs)) 87)) 102 #[.int .i64 0, .int .i64 0, .slice none 0 0]
  have B0 : Below w.heap.size w ((w.alloc (.cells (cells1 (q :: fs)) 87)).alloc (.cells #[.int .i64 0, .int .i64 0, .slice none 0 0] 102)) := (by repeat (first | exact Below.refl _ _ | refine Below.drew ?_ | refine below_drewN ?_ _ | refine Below.setCell ?_ (by first | omega | (simp; done) | (simp; omega)) _ | refine Below.alloc ?_ (by first | omega | (simp; done) | (simp; omega)) _))
  have hrg : ((w.alloc (.cells (cells1 (q :: fs)) 87)).alloc (.cells #[.int .i64 0, .int .i64 0, .slice none 0 0] 102)).rangeAt w.heap.size 1 (cells1 fs).toList := fun j v hv => by
    rw [X0.at.1, ← hv]
    simp [cells1, Nat.add_comm 1 j]
  have c0 := X0.one 0 (by simp)
  simp only [List.getD_cons_zero] at c0
  clear X0
  go_enter Tryz.func57, Tryz.ntmps57
  go_wp2_with (refine wpList_load_mid rfl 85 _ rfl w.heap.size 1 rfl (cells1 fs).toList _ hrg Tryz.underlying85 rfl (by rw [Array.length_toList, cells1_size, HL.out]; kernel_rfl) ?_)
  refine (KR _).mono ?_
  rintro e w1 ⟨u, b0, rfl, ⟨p, c, rfl, hM⟩, hb0, hb1⟩
  have R1 := R0.keep hb1
  have B1 := B0.trans (hb1.mono B0.size)
  clear hrg c0 R0 B0 KR
  have HU : Hid ((unflat fs).length = 4) := rfl
  go_wp2_with (refine wpList_store_blk rfl 102 _ _ rfl (w.heap.size + 1) #[.int .i64 0, .int .i64 q, .slice p (unflat fs).length c] rfl rfl R1 rfl (by kernel_rfl) (by kernel_rfl) ?_; intro w2 R2 O2)
  exact bodyPost_ret (v := .agg #[.int .i64 0, .int .i64 q, .slice p (unflat fs).length c]) (results_blk Tryz.results57 rfl R2 Tryz.underlying102 rfl (by kernel_rfl)) rfl ⟨_, b0, rfl, ⟨p, c, rfl, hM.off O2 (fun y hy hm => by have := hb0 y hy; simp at this hm; omega)⟩, fun y hy => by have := hb0 y hy; simp at this; omega, B1.trans (O2.toBelow B1.size (by simp))⟩
end Go.Proofs.YtepobckhfodngaoGreat
