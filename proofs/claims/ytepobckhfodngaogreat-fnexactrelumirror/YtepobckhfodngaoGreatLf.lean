/-
  A part of a bit as a number, in the program.
-/
import Derived.Test.YtepobckhfodngaoGreatSh
import Derived.Deep.Cut
namespace Go.Proofs.YtepobckhfodngaoGreat
open Go.ChangeShapes Go.WideShapes Go.ChangeAt Go.RowKit
set_option linter.unusedVariables false

/-- what of sixteen numbers stands at one part, of the first parties; all else 0 -/
def lfN (fs : List Int) (part i : Nat) : List Int := (List.range 16).map fun (j : Nat) => if j / 4 < i ∧ j % 4 = part then fs.getD j 0 else 0
def lfF (fs : List Int) (part : Nat) : List Int := lfN fs part 4
theorem lfN_len (fs : List Int) (part i : Nat) : (lfN fs part i).length = 16 := by simp [lfN]
theorem lfN_step (fs : List Int) {part i : Nat} (hi : i < 4) (hp : part < 4) : ((256 : Int) :: lfN fs part i).set (1 + i * 4 + part) (fs.getD (i * 4 + part) 0) = 256 :: lfN fs part (i + 1) := by
  rw [show 1 + i * 4 + part = (i * 4 + part) + 1 by omega, List.set_cons_succ]
  congr 1
  apply List.ext_getElem
  · simp [lfN]
  · intro j hj hj'
    rw [List.getElem_set]
    simp only [lfN, List.getElem_map, List.getElem_range]
    by_cases k : i * 4 + part = j
    · subst k
      rw [if_pos rfl, if_pos ⟨by omega, by omega⟩]
    · rw [if_neg k]
      by_cases k1 : j % 4 = part
      · by_cases k2 : j / 4 < i
        · rw [if_pos ⟨k2, k1⟩, if_pos ⟨by omega, k1⟩]
        · rw [if_neg (fun h => k2 h.1), if_neg (fun h => k (by omega))]
      · rw [if_neg (fun h => k1 h.2), if_neg (fun h => k1 h.2)]
theorem lfN_zero (fs : List Int) (part : Nat) : (#[.int .i64 256, .int .i64 0, .int .i64 0, .int .i64 0, .int .i64 0, .int .i64 0, .int .i64 0, .int .i64 0, .int .i64 0, .int .i64 0, .int .i64 0, .int .i64 0, .int .i64 0, .int .i64 0, .int .i64 0, .int .i64 0, .int .i64 0] : Array Value) = cells1 (256 :: lfN fs part 0) := by
  have : lfN fs part 0 = List.replicate 16 0 := by
    apply List.ext_getElem
    · simp [lfN]
    · intro j hj hj'
      rw [List.getElem_replicate]
      simp only [lfN, List.getElem_map, List.getElem_range]
      rw [if_neg (by omega)]
  rw [this]
  rfl
theorem lfF_ok {fs : List Int} (h : ∀ j, 0 ≤ fs.getD j 0 ∧ fs.getD j 0 < 256) (part : Nat) : Ok16 256 (lfF fs part) := by
  refine ⟨lfN_len _ _ _, fun j => ?_⟩
  unfold lfF lfN
  rw [List.getD_eq_getElem?_getD, List.getElem?_map]
  by_cases hj : j < 16
  · rw [List.getElem?_range hj]
    simp only [Option.map_some, Option.getD_some]
    split
    · exact h j
    · omega
  · rw [List.getElem?_eq_none (by simp; omega)]
    simp
set_option maxHeartbeats 4000000 in
set_option maxRecDepth 100000 in
theorem impl_lifted (q : Int) (fs : List Int) (part : Nat) (w : World) (hl : fs.length = 16) (hp : part < 4) :
    Calls Tryz.prog 95 #[.agg (cells1 (q :: fs)), .int .i64 part] w fun e w' => e = .returned (.agg (cells1 (256 :: lfF fs part))) ∧ Below w.heap.size w w' := by
  have HL : Hid (fs.length = 16) := hl
  have HLQ : Hid ((q :: fs).length = 17) := by show _ = _; rw [List.length_cons, hl]
  have HP : Hid (part < 4) := hp
  have hk1 : (part : Int) < 4 := by omega
  have hk0 : (0 : Int) ≤ (part : Int) := by omega
  have HIX : Hid (∀ i : Nat, i < 4 → ∀ w, (Instr.index 85 (.agg (cells1 fs)) (.int .i64 i)).run Tryz.prog w = .ok (.agg (cells1 (row4 fs i))) w) := fun i hi w => run_rowF hl i hi w
  have HR4 : Hid (∀ i, i < 4 → (row4 fs i).getD part 0 = fs.getD (i * 4 + part) 0) := fun i hi => row4_getD _ _ _ hp
  clear hl hp
  have HK0 : Hid ((#[.int .i64 256, .int .i64 0, .int .i64 0, .int .i64 0, .int .i64 0, .int .i64 0, .int .i64 0, .int .i64 0, .int .i64 0, .int .i64 0, .int .i64 0, .int .i64 0, .int .i64 0, .int .i64 0, .int .i64 0, .int .i64 0, .int .i64 0] : Array Value) = cells1 (256 :: lfN fs part 0)) := lfN_zero fs part
  have S0 : Blk ((w.alloc (.cells (cells1 (q :: fs)) 87)).alloc (.cells #[.int .i64 0, .int .i64 0, .int .i64 0, .int .i64 0, .int .i64 0, .int .i64 0, .int .i64 0, .int .i64 0, .int .i64 0, .int .i64 0, .int .i64 0, .int .i64 0, .int .i64 0, .int .i64 0, .int .i64 0, .int .i64 0, .int .i64 0] 87)) w.heap.size 87 (cells1 (q :: fs)) := (Blk.new w _ _).alloc _
  have R0 : Blk ((w.alloc (.cells (cells1 (q :: fs)) 87)).alloc (.cells #[.int .i64 0, .int .i64 0, .int .i64 0, .int .i64 0, .int .i64 0, .int .i64 0, .int .i64 0, .int .i64 0, .int .i64 0, .int .i64 0, .int .i64 0, .int .i64 0, .int .i64 0, .int .i64 0, .int .i64 0, .int .i64 0, .int .i64 0] 87)) (w.heap.size + 1) 87 #[.int .i64 0, .int .i64 0, .int .i64 0, .int .i64 0, .int .i64 0, .int .i64 0, .int .i64 0, .int .i64 0, .int .i64 0, .int .i64 0, .int .i64 0, .int .i64 0, .int .i64 0, .int .i64 0, .int .i64 0, .int .i64 0, .int .i64 0] := by simpa using Blk.new (w.alloc (.cells (cells1 (q :: fs)) 87)) 87 #[.int .i64 0, .int .i64 0, .int .i64 0, .int .i64 0, .int .i64 0, .int .i64 0, .int .i64 0, .int .i64 0, .int .i64 0, .int .i64 0, .int .i64 0, .int .i64 0, .int .i64 0, .int .i64 0, .int .i64 0, .int .i64 0, .int .i64 0]
  have B0 : Below w.heap.size w ((w.alloc (.cells (cells1 (q :: fs)) 87)).alloc (.cells #[.int .i64 0, .int .i64 0, .int .i64 0, .int .i64 0, .int .i64 0, .int .i64 0, .int .i64 0, .int .i64 0, .int .i64 0, .int .i64 0, .int .i64 0, .int .i64 0, .int .i64 0, .int .i64 0, .int .i64 0, .int .i64 0, .int .i64 0] 87)) := ((Below.refl _ _).alloc (Nat.le_refl _) _).alloc ((Below.refl _ _).alloc (Nat.le_refl _) _).size _
  have z0 : ((w.alloc (.cells (cells1 (q :: fs)) 87)).alloc (.cells #[.int .i64 0, .int .i64 0, .int .i64 0, .int .i64 0, .int .i64 0, .int .i64 0, .int .i64 0, .int .i64 0, .int .i64 0, .int .i64 0, .int .i64 0, .int .i64 0, .int .i64 0, .int .i64 0, .int .i64 0, .int .i64 0, .int .i64 0] 87)).heap.size = w.heap.size + 2 := by simp
  go_enter Tryz.func95, Tryz.ntmps95
  go_upto_region 1 with fail
  generalize ((w.alloc (.cells (cells1 (q :: fs)) 87)).alloc (.cells #[.int .i64 0, .int .i64 0, .int .i64 0, .int .i64 0, .int .i64 0, .int .i64 0, .int .i64 0, .int .i64 0, .int .i64 0, .int .i64 0, .int .i64 0, .int .i64 0, .int .i64 0, .int .i64 0, .int .i64 0, .int .i64 0, .int .i64 0] 87)) = w2 at *
  have Zn := Blk.new w2 87 #[.int .i64 0, .int .i64 0, .int .i64 0, .int .i64 0, .int .i64 0, .int .i64 0, .int .i64 0, .int .i64 0, .int .i64 0, .int .i64 0, .int .i64 0, .int .i64 0, .int .i64 0, .int .i64 0, .int .i64 0, .int .i64 0, .int .i64 0]
  rw [z0] at Zn
  have HRG : Hid (∀ (V : World) (b : Nat) (z : Int) (l : List Int), Blk V b 87 (cells1 (z :: l)) → V.rangeAt b 1 (cells1 l).toList) := fun V b z l hB => fun j v hv => by rw [hB.at.1, ← hv]; simp [cells1, Nat.add_comm 1 j]
  have b2s := B0.size
  go_wp2_with (first | (refine wpList_store_blk rfl 87 _ _ rfl (w.heap.size + 2) #[.int .i64 256, .int .i64 0, .int .i64 0, .int .i64 0, .int .i64 0, .int .i64 0, .int .i64 0, .int .i64 0, .int .i64 0, .int .i64 0, .int .i64 0, .int .i64 0, .int .i64 0, .int .i64 0, .int .i64 0, .int .i64 0, .int .i64 0] rfl rfl Zn rfl (by kernel_rfl) (by kernel_rfl) ?_; intro w3 K3 O3; have S3 := (S0.alloc _).off O3 (by simp)) | (refine wpList_load_mid rfl 85 _ rfl w.heap.size 1 rfl (cells1 fs).toList _ (HRG.out _ _ _ _ S3) Tryz.underlying85 rfl (by rw [Array.length_toList, cells1_size, HL.out]; kernel_rfl) ?_))
  have O3' : Off [w.heap.size + 2] w2 w3 := ((Off.refl _ _).alloc _).trans O3
  have R3 := R0.off O3' (by simp)
  have B3 : Below w.heap.size w w3 := B0.trans (O3'.toBelow B0.size (by simp))
  rw [HK0.out] at K3
  clear Zn O3 O3' S0 R0 B0 S3 z0
  go_loopw [6, 7, 11] (fun _ _ j wr => ∃ i : Nat, i ≤ 4 ∧ j = .int .i64 i ∧ Blk wr (w.heap.size + 1) 87 #[.int .i64 0, .int .i64 0, .int .i64 0, .int .i64 0, .int .i64 0, .int .i64 0, .int .i64 0, .int .i64 0, .int .i64 0, .int .i64 0, .int .i64 0, .int .i64 0, .int .i64 0, .int .i64 0, .int .i64 0, .int .i64 0, .int .i64 0] ∧ Blk wr (w.heap.size + 2) 87 (cells1 (256 :: lfN fs part i)) ∧ Below w.heap.size w wr) (fun _ _ j _ => 4 - (intOf j).toNat)
  case atStart => exact ⟨0, Nat.zero_le _, rfl, R3, K3, B3⟩
  case round =>
    clear R3 K3 B3
    obtain ⟨i, hi, rfl, R, K, B⟩ := hrel
    by_cases hil : i < 4
    · have hi1 : (i : Int) < 4 := by omega
      have hi0 : (0 : Int) ≤ (i : Int) := by omega
      have HI4 : Hid (i < 4) := hil
      have hidx := HIX.out i hil
      have hr4 := HR4.out i hil
      have HRL : Hid ((row4 fs i).length = 4) := rfl
      have Zn := Blk.new wr 83 #[.int .i64 0, .int .i64 0, .int .i64 0, .int .i64 0]
      have HST : Hid (((256 : Int) :: lfN fs part i).set (1 + i * 4 + part) (fs.getD (i * 4 + part) 0) = 256 :: lfN fs part (i + 1)) := lfN_step fs hil HP.out
      clear hil hi
      go_wp2_with (refine wpList_store_blk rfl 83 _ _ rfl wr.heap.size (cells1 (row4 fs i)) rfl rfl Zn (by rw [cells1_size, HRL.out]; rfl) (by rw [cells1_size, HRL.out]; kernel_rfl) (cells1_one _) ?_; intro wa V1 O1)
      have O1' : Off [wr.heap.size] wr wa := ((Off.refl _ _).alloc _).trans O1
      have lK := K.lt
      have R1 := R.off O1' (by simp; omega)
      have K1 := K.off O1' (by simp; omega)
      have B1 := B.trans (O1'.toBelow B.size (by have := B.size; simp; omega))
      clear Zn O1 O1' R K B hidx
      have lg : w.heap.size + 2 < wr.heap.size := lK
      clear lK
      generalize wr.heap.size = gv at *
      have cv := V1.one part (by rw [HRL.out]; have := HP.out; omega)
      rw [hr4] at cv
      have HRV : Hid ((row4 fs i).getD part 0 = fs.getD (i * 4 + part) 0) := hr4
      generalize fs.getD (i * 4 + part) 0 = vv at *
      refine wp_region_held (S := fun V => V.cell? ⟨gv, part, none⟩ = some (.int .i64 vv)) (by kernel_rfl) ?_
      try (change wpAnyH _ _ _ _ _ _ _ _ (World.drew _))
      have R2 := R1.drew
      have K2 := K1.drew
      have B2 := B1.drew
      have V2 := V1.drew
      have hS : wa.drew.cell? ⟨gv, part, none⟩ = some (.int .i64 vv) := cv
      clear R1 K1 B1 V1 cv hr4
      generalize wa.drew = wb at *
      refine wpAnyH_take (i := 0) (v := ?vn1) rfl (by kernel_rfl) (by kernel_rfl) (by kernel_rfl) (fun _ _ _ h => h) (Or.inl ⟨by rfl, ?hn1⟩) hS ?rn1
      case hn1 => intro w' hSw; go_simp; (try with_reducible rfl)
      (try simp only [List.getElem_toArray]); (try simp only [List.getElem_cons_succ]); (try simp only [List.getElem_cons_zero]); (try simp only [Act.put]); (try simp only [List.setIfInBounds_toArray]); (try simp only [List.set_cons_succ]); (try simp only [List.set_cons_zero])
      refine wpAnyH_take (i := 1) (v := ?vn2) rfl (by kernel_rfl) (by kernel_rfl) (by kernel_rfl) (fun _ _ _ h => h) (Or.inl ⟨by rfl, ?hn2⟩) hS ?rn2
      case hn2 => intro w' hSw; go_simp; (try with_reducible rfl)
      (try simp only [List.getElem_toArray]); (try simp only [List.getElem_cons_succ]); (try simp only [List.getElem_cons_zero]); (try simp only [Act.put]); (try simp only [List.setIfInBounds_toArray]); (try simp only [List.set_cons_succ]); (try simp only [List.set_cons_zero])
      refine wpAnyH_take (i := 2) (v := ?vn3) rfl (by kernel_rfl) (by kernel_rfl) (by kernel_rfl) (fun _ _ _ h => h) (Or.inl ⟨by rfl, ?hn3⟩) hS ?rn3
      case hn3 => intro w' hSw; go_simp; (try with_reducible rfl)
      (try simp only [List.getElem_toArray]); (try simp only [List.getElem_cons_succ]); (try simp only [List.getElem_cons_zero]); (try simp only [Act.put]); (try simp only [List.setIfInBounds_toArray]); (try simp only [List.set_cons_succ]); (try simp only [List.set_cons_zero])
      refine wpAnyH_take (i := 3) (v := ?vn4) rfl (by kernel_rfl) (by kernel_rfl) (by kernel_rfl) (fun _ _ _ h => h) (Or.inl ⟨by rfl, ?hn4⟩) hS ?rn4
      case hn4 => intro w' hSw; go_simp; (try with_reducible rfl)
      (try simp only [List.getElem_toArray]); (try simp only [List.getElem_cons_succ]); (try simp only [List.getElem_cons_zero]); (try simp only [Act.put]); (try simp only [List.setIfInBounds_toArray]); (try simp only [List.set_cons_succ]); (try simp only [List.set_cons_zero])
      refine wpAnyH_take (i := 4) (v := ?vn5) rfl (by kernel_rfl) (by kernel_rfl) (by kernel_rfl) (fun _ _ _ h => h) (Or.inl ⟨by rfl, ?hn5⟩) hS ?rn5
      case hn5 => intro w' hSw; go_simp; (try with_reducible rfl)
      (try simp only [List.getElem_toArray]); (try simp only [List.getElem_cons_succ]); (try simp only [List.getElem_cons_zero]); (try simp only [Act.put]); (try simp only [List.setIfInBounds_toArray]); (try simp only [List.set_cons_succ]); (try simp only [List.set_cons_zero])
      refine wpAnyH_take (i := 5) (v := ?vn6) rfl (by kernel_rfl) (by kernel_rfl) (by kernel_rfl) (fun _ _ _ h => h) (Or.inl ⟨by rfl, ?hn6⟩) hS ?rn6
      case hn6 => intro w' hSw; go_simp; (try with_reducible rfl)
      (try simp only [List.getElem_toArray]); (try simp only [List.getElem_cons_succ]); (try simp only [List.getElem_cons_zero]); (try simp only [Act.put]); (try simp only [List.setIfInBounds_toArray]); (try simp only [List.set_cons_succ]); (try simp only [List.set_cons_zero])
      refine wpAnyH_take (i := 6) (v := ?vn7) rfl (by kernel_rfl) (by kernel_rfl) (by kernel_rfl) (fun _ _ _ h => h) (Or.inl ⟨by rfl, ?hn7⟩) hS ?rn7
      case hn7 => intro w' hSw; go_simp; (try with_reducible rfl)
      (try simp only [List.getElem_toArray]); (try simp only [List.getElem_cons_succ]); (try simp only [List.getElem_cons_zero]); (try simp only [Act.put]); (try simp only [List.setIfInBounds_toArray]); (try simp only [List.set_cons_succ]); (try simp only [List.set_cons_zero])
      refine wpAnyH_take (i := 7) (v := ?vn8) rfl (by kernel_rfl) (by kernel_rfl) (by kernel_rfl) (fun _ _ _ h => h) (Or.inl ⟨by rfl, ?hn8⟩) hS ?rn8
      case hn8 => intro w' hSw; go_simp; (try with_reducible rfl)
      (try simp only [List.getElem_toArray]); (try simp only [List.getElem_cons_succ]); (try simp only [List.getElem_cons_zero]); (try simp only [Act.put]); (try simp only [List.setIfInBounds_toArray]); (try simp only [List.set_cons_succ]); (try simp only [List.set_cons_zero])
      have c4 := K2.one (1 + i * 4 + part) (by rw [List.length_cons, lfN_len]; have := HI4.out; have := HP.out; omega)
      have f4 := K2.at.2 (1 + i * 4 + part)
      refine wpAnyH_ready (rs := [8]) (by kernel_rfl) (by simp) ?_
      refine AllReadyH.cons (o := _) rfl (fun K hK => ?_) AllReadyH.nil
      rw [if_pos (by rfl)]
      go_simp
      have K5 := K2.set1 (1 + i * 4 + part) vv
      rw [HST.out] at K5
      have O5 : Off [w.heap.size + 2] wb (wb.setCell ⟨w.heap.size + 2, 1 + i * 4 + part, none⟩ (.int .i64 vv)) := (Off.refl _ _).setCell _ _ (.inl (by simp))
      have R5 := R2.off O5 (by simp)
      have V5 := V2.off O5 (by simp; omega)
      have B5 := B2.trans (O5.toBelow B2.size (by simp))
      clear c4 f4 R2 K2 V2 B2 O5
      refine hK.out _ _ (V5.one part (by rw [HRL.out]; have := HP.out; omega) |>.trans (by rw [HRV.out])) (fun hS => ?_)
      clear hK K
      (try simp only [List.getElem_toArray]); (try simp only [List.getElem_cons_succ]); (try simp only [List.getElem_cons_zero]); (try simp only [Act.put]); (try simp only [List.setIfInBounds_toArray]); (try simp only [List.set_cons_succ]); (try simp only [List.set_cons_zero])
      refine wpAnyH_done (by kernel_rfl) ?_ _
      clear hS
      generalize wb.setCell ⟨w.heap.size + 2, 1 + i * 4 + part, none⟩ (.int .i64 vv) = w9 at *
      go_wp2
      go_roundw
      case rel => exact ⟨i + 1, HI4.out, by go_num, R5, K5, B5⟩
      case measure => simp [intOf]; omega
    · obtain rfl : i = 4 := by omega
      have HF : Hid (lfN fs part 4 = lfF fs part) := rfl
      rw [HF.out] at K
      have HKL : Hid (((256 : Int) :: lfF fs part).length = 17) := by show _ = _; rw [List.length_cons]; unfold lfF; rw [lfN_len]
      clear HIX HR4 HK0
      generalize hks : lfF fs part = ks at *
      have HKS : Hid (lfF fs part = ks) := hks
      clear hks
      go_wp2_with (first | (refine wpList_load_blk rfl 87 _ rfl (w.heap.size + 2) rfl K Tryz.underlying87 rfl (by rw [cells1_size, HKL.out]; kernel_rfl) ?_) | (refine wpList_store_blk rfl 87 _ _ rfl (w.heap.size + 1) (cells1 (256 :: ks)) rfl rfl R (by rw [cells1_size, HKL.out]; rfl) (by rw [cells1_size, HKL.out]; kernel_rfl) (cells1_one _) ?_; intro w20 R20 O20))
      try go_wp2
      exact bodyPost_ret (v := .agg (cells1 (256 :: ks))) (results_blk Tryz.results95 rfl R20 Tryz.underlying87 rfl (by rw [cells1_size, HKL.out]; kernel_rfl)) rfl ⟨by rw [HKS.out], B.trans (O20.toBelow B.size (by simp))⟩
end Go.Proofs.YtepobckhfodngaoGreat
