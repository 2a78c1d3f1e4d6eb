/-
  Bits of parts in the program.
-/
import Derived.Test.YtepobckhfodngaoGreatMirK
import Derived.Test.YtepobckhfodngaoGreatDotM0
import Derived.Test.YtepobckhfodngaoGreatBits
import Derived.Test.YtepobckhfodngaoGreatMsG
import Derived.Test.YtepobckhfodngaoGreatSh
namespace Go.Proofs.YtepobckhfodngaoGreat
open Go.ChangeShapes Go.WideShapes Go.ChangeAt Go.RowKit
set_option linter.unusedVariables false

/-- the numbers of eight shares, one behind the other: the bits of what all know of one part -/
def bpF (xss : List (List Int)) (part j : Nat) : Int := if j % 17 = 0 then 2 else if (j % 17 - 1) % 4 = part then halfN (pt xss ((j % 17 - 1) / 4) part) (j / 17) % 2 else 0
/-- the first N of them, and nothing behind -/
def kn (f : Nat → Int) (N : Nat) : List Int := (List.range 136).map fun (j : Nat) => if j < N then f j else 0
theorem kn_len (f : Nat → Int) (N : Nat) : (kn f N).length = 136 := by simp [kn]
theorem kn_step {f : Nat → Int} {N M a : Nat} {v : Int} (h1 : N ≤ a) (h2 : a < M) (hv : f a = v) (h0 : ∀ j, N ≤ j → j < M → j ≠ a → f j = 0) : (kn f N).set a v = kn f M := by
  apply List.ext_getElem
  · simp [kn]
  · intro j hj hj'
    rw [List.getElem_set]
    simp only [kn, List.getElem_map, List.getElem_range]
    by_cases e : a = j
    · subst e
      rw [if_pos rfl, if_pos h2, hv]
    · rw [if_neg e]
      by_cases k : j < N
      · rw [if_pos k, if_pos (by omega)]
      · rw [if_neg k]
        by_cases k2 : j < M
        · rw [if_pos k2, h0 j (by omega) k2 (fun h => e h.symm)]
        · rw [if_neg k2]
theorem bpF_q (xss : List (List Int)) (part b : Nat) : bpF xss part (b * 17) = 2 := by unfold bpF; rw [if_pos (by omega)]
theorem bpF_at (xss : List (List Int)) {part i : Nat} (b : Nat) (hp : part < 4) (hi : i < 4) : bpF xss part (b * 17 + 1 + i * 4 + part) = halfN (pt xss i part) b % 2 := by
  have h1 : (b * 17 + 1 + i * 4 + part) % 17 = 1 + i * 4 + part := by omega
  have h2 : (b * 17 + 1 + i * 4 + part) / 17 = b := by omega
  unfold bpF
  rw [h1, h2, if_neg (by omega), if_pos (by omega), show (1 + i * 4 + part - 1) / 4 = i by omega]
theorem bpF_no (xss : List (List Int)) {part i b j : Nat} (hp : part < 4) (hi : i < 4) (h1 : b * 17 + 1 + i * 4 ≤ j) (h2 : j < b * 17 + 1 + i * 4 + 4) (h3 : j ≠ b * 17 + 1 + i * 4 + part) : bpF xss part j = 0 := by
  obtain ⟨t, rfl⟩ : ∃ t, j = b * 17 + 1 + i * 4 + t := ⟨j - (b * 17 + 1 + i * 4), by omega⟩
  have e1 : (b * 17 + 1 + i * 4 + t) % 17 = 1 + i * 4 + t := by omega
  unfold bpF
  rw [e1, if_neg (by omega), if_neg (by omega)]
theorem kn_zero (f : Nat → Int) : (#[.int .i64 0, .int .i64 0, .int .i64 0, .int .i64 0, .int .i64 0, .int .i64 0, .int .i64 0, .int .i64 0, .int .i64 0, .int .i64 0, .int .i64 0, .int .i64 0, .int .i64 0, .int .i64 0, .int .i64 0, .int .i64 0, .int .i64 0, .int .i64 0, .int .i64 0, .int .i64 0, .int .i64 0, .int .i64 0, .int .i64 0, .int .i64 0, .int .i64 0, .int .i64 0, .int .i64 0, .int .i64 0, .int .i64 0, .int .i64 0, .int .i64 0, .int .i64 0, .int .i64 0, .int .i64 0, .int .i64 0, .int .i64 0, .int .i64 0, .int .i64 0, .int .i64 0, .int .i64 0, .int .i64 0, .int .i64 0, .int .i64 0, .int .i64 0, .int .i64 0, .int .i64 0, .int .i64 0, .int .i64 0, .int .i64 0, .int .i64 0, .int .i64 0, .int .i64 0, .int .i64 0, .int .i64 0, .int .i64 0, .int .i64 0, .int .i64 0, .int .i64 0, .int .i64 0, .int .i64 0, .int .i64 0, .int .i64 0, .int .i64 0, .int .i64 0, .int .i64 0, .int .i64 0, .int .i64 0, .int .i64 0, .int .i64 0, .int .i64 0, .int .i64 0, .int .i64 0, .int .i64 0, .int .i64 0, .int .i64 0, .int .i64 0, .int .i64 0, .int .i64 0, .int .i64 0, .int .i64 0, .int .i64 0, .int .i64 0, .int .i64 0, .int .i64 0, .int .i64 0, .int .i64 0, .int .i64 0, .int .i64 0, .int .i64 0, .int .i64 0, .int .i64 0, .int .i64 0, .int .i64 0, .int .i64 0, .int .i64 0, .int .i64 0, .int .i64 0, .int .i64 0, .int .i64 0, .int .i64 0, .int .i64 0, .int .i64 0, .int .i64 0, .int .i64 0, .int .i64 0, .int .i64 0, .int .i64 0, .int .i64 0, .int .i64 0, .int .i64 0, .int .i64 0, .int .i64 0, .int .i64 0, .int .i64 0, .int .i64 0, .int .i64 0, .int .i64 0, .int .i64 0, .int .i64 0, .int .i64 0, .int .i64 0, .int .i64 0, .int .i64 0, .int .i64 0, .int .i64 0, .int .i64 0, .int .i64 0, .int .i64 0, .int .i64 0, .int .i64 0, .int .i64 0, .int .i64 0, .int .i64 0, .int .i64 0, .int .i64 0, .int .i64 0] : Array Value) = cells1 (kn f 0) := by
  have h : ∀ l : List Nat, l.map (fun j => if j < 0 then f j else 0) = List.replicate l.length 0 := by
    intro l
    induction l with
    | nil => rfl
    | cons x l ih => rw [List.map_cons, ih, if_neg (Nat.not_lt_zero _), List.length_cons, List.replicate_succ]
  have this : kn f 0 = List.replicate 136 0 := by
    have := h (List.range 136)
    rwa [List.length_range] at this
  rw [this]
  rfl
theorem zero_bits (w : World) : (zeroValue 156).run Tryz.prog w = .ok (.agg #[.int .i64 0, .int .i64 0, .int .i64 0, .int .i64 0, .int .i64 0, .int .i64 0, .int .i64 0, .int .i64 0, .int .i64 0, .int .i64 0, .int .i64 0, .int .i64 0, .int .i64 0, .int .i64 0, .int .i64 0, .int .i64 0, .int .i64 0, .int .i64 0, .int .i64 0, .int .i64 0, .int .i64 0, .int .i64 0, .int .i64 0, .int .i64 0, .int .i64 0, .int .i64 0, .int .i64 0, .int .i64 0, .int .i64 0, .int .i64 0, .int .i64 0, .int .i64 0, .int .i64 0, .int .i64 0, .int .i64 0, .int .i64 0, .int .i64 0, .int .i64 0, .int .i64 0, .int .i64 0, .int .i64 0, .int .i64 0, .int .i64 0, .int .i64 0, .int .i64 0, .int .i64 0, .int .i64 0, .int .i64 0, .int .i64 0, .int .i64 0, .int .i64 0, .int .i64 0, .int .i64 0, .int .i64 0, .int .i64 0, .int .i64 0, .int .i64 0, .int .i64 0, .int .i64 0, .int .i64 0, .int .i64 0, .int .i64 0, .int .i64 0, .int .i64 0, .int .i64 0, .int .i64 0, .int .i64 0, .int .i64 0, .int .i64 0, .int .i64 0, .int .i64 0, .int .i64 0, .int .i64 0, .int .i64 0, .int .i64 0, .int .i64 0, .int .i64 0, .int .i64 0, .int .i64 0, .int .i64 0, .int .i64 0, .int .i64 0, .int .i64 0, .int .i64 0, .int .i64 0, .int .i64 0, .int .i64 0, .int .i64 0, .int .i64 0, .int .i64 0, .int .i64 0, .int .i64 0, .int .i64 0, .int .i64 0, .int .i64 0, .int .i64 0, .int .i64 0, .int .i64 0, .int .i64 0, .int .i64 0, .int .i64 0, .int .i64 0, .int .i64 0, .int .i64 0, .int .i64 0, .int .i64 0, .int .i64 0, .int .i64 0, .int .i64 0, .int .i64 0, .int .i64 0, .int .i64 0, .int .i64 0, .int .i64 0, .int .i64 0, .int .i64 0, .int .i64 0, .int .i64 0, .int .i64 0, .int .i64 0, .int .i64 0, .int .i64 0, .int .i64 0, .int .i64 0, .int .i64 0, .int .i64 0, .int .i64 0, .int .i64 0, .int .i64 0, .int .i64 0, .int .i64 0, .int .i64 0, .int .i64 0, .int .i64 0, .int .i64 0, .int .i64 0]) w := by kernel_rfl
set_option maxHeartbeats 4000000 in
set_option maxRecDepth 100000 in
theorem impl_bitsOfPart (xss : List (List Int)) (part : Nat) (w : World) (hs : Sq xss) (hp : part < 4) (hb : ∀ i j, 0 ≤ pt xss i j ∧ pt xss i j < 256) :
    Calls Tryz.prog 120 #[.agg (cells1 xss.flatten), .int .i64 part] w fun e w' => e = .returned (.agg (cells1 (kn (bpF xss part) 136))) ∧ Below w.heap.size w w' := by
  obtain ⟨F, hF⟩ : ∃ f, f = bpF xss part := ⟨_, rfl⟩
  have HFQ : Hid (∀ b, F (b * 17) = 2) := fun b => by rw [hF]; exact bpF_q xss part b
  have HFA : Hid (∀ b i, i < 4 → F (b * 17 + 1 + i * 4 + part) = halfN (pt xss i part) b % 2) := fun b i hi => by rw [hF]; exact bpF_at xss b hp hi
  have HFN : Hid (∀ b i j, i < 4 → b * 17 + 1 + i * 4 ≤ j → j < b * 17 + 1 + i * 4 + 4 → j ≠ b * 17 + 1 + i * 4 + part → F j = 0) := fun b i j hi h1 h2 h3 => by rw [hF]; exact bpF_no xss hp hi h1 h2 h3
  rw [← hF]
  clear hF
  have HP : Hid (part < 4) := hp
  have HBD : Hid (∀ i j, 0 ≤ pt xss i j ∧ pt xss i j < 256) := hb
  have HR4 : Hid (∀ i, i < 4 → (row4 xss.flatten i).getD part 0 = pt xss i part) := fun i hi => by rw [row4_getD _ _ _ hp, flat_getD hs i part hi hp]
  have HL : Hid (xss.flatten.length = 16) := flat_len hs
  have hk1 : (part : Int) < 4 := by omega
  have hk0 : (0 : Int) ≤ (part : Int) := by omega
  have HIX : Hid (∀ i : Nat, i < 4 → ∀ w, (Instr.index 85 (.agg (cells1 xss.flatten)) (.int .i64 i)).run Tryz.prog w = .ok (.agg (cells1 (row4 xss.flatten i))) w) := fun i hi w => run_rowF HL.out i hi w
  clear hs hp hb
  generalize xss.flatten = fs at *
  have hz : ∀ w, (zeroValue 156).run Tryz.prog w = .ok (.agg (cells1 (kn F 0))) w := fun w => by rw [← kn_zero F]; exact zero_bits w
  have X0 : Blk (((w.alloc (.cells (cells1 fs) 85)).alloc (.cells (cells1 (kn F 0)) 156)).alloc (.cells (cells1 (kn F 0)) 156)) w.heap.size 85 (cells1 fs) := ((Blk.new w _ _).alloc _).alloc _
  have R0 : Blk (((w.alloc (.cells (cells1 fs) 85)).alloc (.cells (cells1 (kn F 0)) 156)).alloc (.cells (cells1 (kn F 0)) 156)) (w.heap.size + 1) 156 (cells1 (kn F 0)) := by simpa using (Blk.new (w.alloc (.cells (cells1 fs) 85)) 156 (cells1 (kn F 0))).alloc (.cells (cells1 (kn F 0)) 156)
  have K0 : Blk (((w.alloc (.cells (cells1 fs) 85)).alloc (.cells (cells1 (kn F 0)) 156)).alloc (.cells (cells1 (kn F 0)) 156)) (w.heap.size + 1 + 1) 156 (cells1 (kn F 0)) := by simpa using Blk.new ((w.alloc (.cells (cells1 fs) 85)).alloc (.cells (cells1 (kn F 0)) 156)) 156 (cells1 (kn F 0))
  have B0 : Below w.heap.size w (((w.alloc (.cells (cells1 fs) 85)).alloc (.cells (cells1 (kn F 0)) 156)).alloc (.cells (cells1 (kn F 0)) 156)) := (by repeat (first | exact Below.refl _ _ | refine Below.drew ?_ | refine below_drewN ?_ _ | refine Below.setCell ?_ (by first | omega | (simp; done) | (simp; omega)) _ | refine Below.alloc ?_ (by first | omega | (simp; done) | (simp; omega)) _))
  go_enter Tryz.func120, Tryz.ntmps120
  go_wp2
  clear hz
  generalize (((w.alloc (.cells (cells1 fs) 85)).alloc (.cells (cells1 (kn F 0)) 156)).alloc (.cells (cells1 (kn F 0)) 156)) = w3 at *
  go_loopw [6, 7, 8, 9] (fun _ _ _ i wr => ∃ b : Nat, b ≤ 8 ∧ i = .int .i64 b ∧ Blk wr w.heap.size 85 (cells1 fs) ∧ Blk wr (w.heap.size + 1) 156 (cells1 (kn F 0)) ∧ Blk wr (w.heap.size + 1 + 1) 156 (cells1 (kn F (b * 17))) ∧ Below w.heap.size w wr) (fun _ _ _ i _ => 8 - (intOf i).toNat)
  case atStart => exact ⟨0, Nat.zero_le _, rfl, X0, R0, by simpa using K0, B0⟩
  case round =>
    clear X0 R0 K0 B0
    obtain ⟨b, hb, rfl, X, R, K, B⟩ := hrel
    by_cases hlt : b < 8
    · have hb1 : (b : Int) < 8 := by omega
      have hb0 : (0 : Int) ≤ (b : Int) := by omega
      have HB8 : Hid (b < 8) := hlt
      have c1 := K.one (b * 17) (by rw [kn_len]; omega)
      have f1 := K.at.2 (b * 17)
      have X1 := X.setOther ⟨w.heap.size + 1 + 1, b * 17, none⟩ (.int .i64 2) (by simp; omega)
      have R1 := R.setOther ⟨w.heap.size + 1 + 1, b * 17, none⟩ (.int .i64 2) (by simp)
      have K1 : Blk (wr.setCell ⟨w.heap.size + 1 + 1, b * 17, none⟩ (.int .i64 2)) (w.heap.size + 1 + 1) 156 (cells1 (kn F (b * 17 + 1 + 0 * 4))) := by have := K.set1 (b * 17) 2; rwa [kn_step (M := b * 17 + 1 + 0 * 4) (Nat.le_refl _) (by omega) (HFQ.out b) (fun j h1 h2 h3 => absurd (show j = b * 17 by omega) h3)] at this
      have B1 := B.trans (((Off.refl [w.heap.size + 1 + 1] wr).setCell ⟨w.heap.size + 1 + 1, b * 17, none⟩ (.int .i64 2) (.inl (by simp))).toBelow B.size (by simp; omega))
      clear X R K B hlt hb
      go_wp2_with (refine wpList_load_blk rfl 85 _ rfl w.heap.size rfl X1 Tryz.underlying85 rfl (by rw [cells1_size, HL.out]; kernel_rfl) ?_)
      generalize wr.setCell ⟨w.heap.size + 1 + 1, b * 17, none⟩ (.int .i64 2) = wy at *
      clear c1 f1
      go_loopw [7, 8, 16] (fun _ _ j wr => ∃ i : Nat, i ≤ 4 ∧ j = .int .i64 i ∧ Blk wr w.heap.size 85 (cells1 fs) ∧ Blk wr (w.heap.size + 1) 156 (cells1 (kn F 0)) ∧ Blk wr (w.heap.size + 1 + 1) 156 (cells1 (kn F (b * 17 + 1 + i * 4))) ∧ Below w.heap.size w wr) (fun _ _ j _ => 4 - (intOf j).toNat)
      case atStart => exact ⟨0, Nat.zero_le _, rfl, X1, R1, K1, B1⟩
      case round =>
        clear X1 R1 K1 B1
        obtain ⟨i, hi, rfl, X, R, K, B⟩ := hrel
        by_cases hil : i < 4
        · have hi1 : (i : Int) < 4 := by omega
          have hi0 : (0 : Int) ≤ (i : Int) := by omega
          have HI4 : Hid (i < 4) := hil
          have hidx := HIX.out i hil
          have hr4 := HR4.out i hil
          have HRL : Hid ((row4 fs i).length = 4) := rfl
          have Zn := Blk.new wr 83 #[.int .i64 0, .int .i64 0, .int .i64 0, .int .i64 0]
          clear hil hi
          go_wp2_with (refine wpList_store_blk rfl 83 _ _ rfl wr.heap.size (cells1 (row4 fs i)) rfl rfl Zn (by rw [cells1_size, HRL.out]; rfl) (by rw [cells1_size, HRL.out]; kernel_rfl) (cells1_one _) ?_; intro wa V1 O1)
          have O1' : Off [wr.heap.size] wr wa := ((Off.refl _ _).alloc _).trans O1
          have lK := K.lt
          have X1 := X.off O1' (by have := X.lt; simp; omega)
          have R1 := R.off O1' (by have := R.lt; simp; omega)
          have K1 := K.off O1' (by simp; omega)
          have B1 := B.trans (O1'.toBelow B.size (by have := B.size; simp; omega))
          have lg : w.heap.size + 1 + 1 < wr.heap.size := lK
          clear Zn O1 O1' X R K B hidx lK
          generalize wr.heap.size = gv at *
          have cv := V1.one part (by rw [HRL.out]; omega)
          rw [hr4] at cv
          obtain ⟨hv0, hv1⟩ := HBD.out i part
          have HA := HFA.out b i HI4.out
          have HRV : Hid ((row4 fs i).getD part 0 = pt xss i part) := hr4
          have HAA : Hid (F (b * 17 + 1 + i * 4 + part) = halfN (pt xss i part) b % 2) := HA
          clear HA
          generalize pt xss i part = vv at *
          refine wp_region_held (S := fun V => V.cell? ⟨gv, part, none⟩ = some (.int .i64 vv)) (by kernel_rfl) ?_
          try (change wpAnyH _ _ _ _ _ _ _ _ (World.drew _))
          have X2 := X1.drew
          have R2 := R1.drew
          have K2 := K1.drew
          have B2 := B1.drew
          have V2 := V1.drew
          have hS : wa.drew.cell? ⟨gv, part, none⟩ = some (.int .i64 vv) := cv
          clear X1 R1 K1 B1 V1 cv hr4
          generalize wa.drew = wb at *
          refine wpAnyH_take (i := 0) (v := ?vn1) rfl (by kernel_rfl) (by kernel_rfl) (by kernel_rfl) (fun _ _ _ h => h) (Or.inl ⟨by rfl, ?hn1⟩) hS ?rn1
          case hn1 => intro w' hSw; go_simp; (try with_reducible rfl)
          (try simp only [List.getElem_toArray]); (try simp only [List.getElem_cons_succ]); (try simp only [List.getElem_cons_zero]); (try simp only [Act.put]); (try simp only [List.setIfInBounds_toArray]); (try simp only [List.set_cons_succ]); (try simp only [List.set_cons_zero])
          refine wpAnyH_take (i := 1) (v := ?vn2) rfl (by kernel_rfl) (by kernel_rfl) (by kernel_rfl) (fun _ _ _ h => h) (Or.inl ⟨by rfl, ?hn2⟩) hS ?rn2
          case hn2 => intro w' hSw; go_simp; (try with_reducible rfl)
          (try simp only [List.getElem_toArray]); (try simp only [List.getElem_cons_succ]); (try simp only [List.getElem_cons_zero]); (try simp only [Act.put]); (try simp only [List.setIfInBounds_toArray]); (try simp only [List.set_cons_succ]); (try simp only [List.set_cons_zero])
          refine wpAnyH_take (i := 2) (v := ?vn3) rfl (by kernel_rfl) (by kernel_rfl) (by kernel_rfl) (fun _ _ _ h => h) (Or.inl ⟨by rfl, ?hn3⟩) hS ?rn3
          case hn3 => intro w' hSw; go_simp; (try with_reducible rfl)
          (try simp only [List.getElem_toArray]); (try simp only [List.getElem_cons_succ]); (try simp only [List.getElem_cons_zero]); (try simp only [Act.put]); (try simp only [List.setIfInBounds_toArray]); (try simp only [List.set_cons_succ]); (try simp only [List.set_cons_zero])
          refine wpAnyH_take (i := 3) (v := ?vn4) rfl (by kernel_rfl) (by kernel_rfl) (by kernel_rfl) (fun _ _ _ h => h) (Or.inl ⟨by rfl, ?hn4⟩) hS ?rn4
          case hn4 => intro w' hSw; go_simp; (try with_reducible rfl)
          (try simp only [List.getElem_toArray]); (try simp only [List.getElem_cons_succ]); (try simp only [List.getElem_cons_zero]); (try simp only [Act.put]); (try simp only [List.setIfInBounds_toArray]); (try simp only [List.set_cons_succ]); (try simp only [List.set_cons_zero])
          refine wpAnyH_take (i := 4) (v := ?vn5) rfl (by kernel_rfl) (by kernel_rfl) (by kernel_rfl) (fun _ _ _ h => h) (Or.inl ⟨by rfl, ?hn5⟩) hS ?rn5
          case hn5 => intro w' hSw; go_simp; (try with_reducible rfl)
          (try simp only [List.getElem_toArray]); (try simp only [List.getElem_cons_succ]); (try simp only [List.getElem_cons_zero]); (try simp only [Act.put]); (try simp only [List.setIfInBounds_toArray]); (try simp only [List.set_cons_succ]); (try simp only [List.set_cons_zero])
          refine wpAnyH_take (i := 5) (v := ?vn6) rfl (by kernel_rfl) (by kernel_rfl) (by kernel_rfl) (fun _ _ _ h => h) (Or.inl ⟨by rfl, ?hn6⟩) hS ?rn6
          case hn6 => intro w' hSw; go_simp; (try with_reducible rfl)
          (try simp only [List.getElem_toArray]); (try simp only [List.getElem_cons_succ]); (try simp only [List.getElem_cons_zero]); (try simp only [Act.put]); (try simp only [List.setIfInBounds_toArray]); (try simp only [List.set_cons_succ]); (try simp only [List.set_cons_zero])
          refine wpAnyH_take (i := 7) (v := ?vn7) rfl (by kernel_rfl) (by kernel_rfl) (by kernel_rfl) (fun _ _ _ h => h) (Or.inl ⟨by rfl, ?hn7⟩) hS ?rn7
          case hn7 => intro w' hSw; go_simp; (try with_reducible rfl)
          (try simp only [List.getElem_toArray]); (try simp only [List.getElem_cons_succ]); (try simp only [List.getElem_cons_zero]); (try simp only [Act.put]); (try simp only [List.setIfInBounds_toArray]); (try simp only [List.set_cons_succ]); (try simp only [List.set_cons_zero])
          refine wpAnyH_take (i := 9) (v := ?vn8) rfl (by kernel_rfl) (by kernel_rfl) (by kernel_rfl) (fun _ _ _ h => h) (Or.inl ⟨by rfl, ?hn8⟩) hS ?rn8
          case hn8 => intro w' hSw; go_simp; (try with_reducible rfl)
          (try simp only [List.getElem_toArray]); (try simp only [List.getElem_cons_succ]); (try simp only [List.getElem_cons_zero]); (try simp only [Act.put]); (try simp only [List.setIfInBounds_toArray]); (try simp only [List.set_cons_succ]); (try simp only [List.set_cons_zero])
          refine wpAnyH_take (i := 10) (v := ?vn9) rfl (by kernel_rfl) (by kernel_rfl) (by kernel_rfl) (fun _ _ _ h => h) (Or.inl ⟨by rfl, ?hn9⟩) hS ?rn9
          case hn9 => intro w' hSw; go_simp; (try with_reducible rfl)
          (try simp only [List.getElem_toArray]); (try simp only [List.getElem_cons_succ]); (try simp only [List.getElem_cons_zero]); (try simp only [Act.put]); (try simp only [List.setIfInBounds_toArray]); (try simp only [List.set_cons_succ]); (try simp only [List.set_cons_zero])
          refine wpAnyH_take (i := 11) (v := ?vn10) rfl (by kernel_rfl) (by kernel_rfl) (by kernel_rfl) (fun _ _ _ h => h) (Or.inl ⟨by rfl, ?hn10⟩) hS ?rn10
          case hn10 => intro w' hSw; go_simp; (try with_reducible rfl)
          (try simp only [List.getElem_toArray]); (try simp only [List.getElem_cons_succ]); (try simp only [List.getElem_cons_zero]); (try simp only [Act.put]); (try simp only [List.setIfInBounds_toArray]); (try simp only [List.set_cons_succ]); (try simp only [List.set_cons_zero])
          refine wpAnyH_ready (rs := [6]) (by kernel_rfl) (by simp) ?_
          refine AllReadyH.cons (o := _) rfl (fun K hK => ?_) AllReadyH.nil
          rw [if_pos (by rfl)]
          go_simp
          go_at_call 136
          refine (impl_elementOf 256 vv _ (by omega) (by omega) hv0 (by omega)).mono ?_
          rintro e w6 ⟨rfl, hb6⟩
          have X3 := X2.keep hb6
          have R3 := R2.keep hb6
          have K3 := K2.keep hb6
          have V3 := V2.keep hb6
          have B3 := B2.trans (hb6.mono B2.size)
          clear X2 R2 K2 V2 B2
          dsimp only
          refine hK.out _ _ (V3.one part (by rw [HRL.out]; omega) |>.trans (by rw [HRV.out])) (fun hS => ?_)
          clear hK K
          (try simp only [List.getElem_toArray]); (try simp only [List.getElem_cons_succ]); (try simp only [List.getElem_cons_zero]); (try simp only [Act.put]); (try simp only [List.setIfInBounds_toArray]); (try simp only [List.set_cons_succ]); (try simp only [List.set_cons_zero])
          refine wpAnyH_ready (rs := [8]) (by kernel_rfl) (by simp) ?_
          refine AllReadyH.cons (o := _) rfl (fun K hK => ?_) AllReadyH.nil
          rw [if_pos (by rfl)]
          go_simp
          go_at_call 137
          refine (impl_bit 256 vv b _ hv0 (by omega) (by omega)).mono ?_
          rintro e w8 ⟨rfl, hb8⟩
          have X4 := X3.keep hb8
          have R4 := R3.keep hb8
          have K4 := K3.keep hb8
          have V4 := V3.keep hb8
          have B4 := B3.trans (hb8.mono B3.size)
          clear X3 R3 K3 V3 B3
          dsimp only
          refine hK.out _ _ (V4.one part (by rw [HRL.out]; omega) |>.trans (by rw [HRV.out])) (fun hS => ?_)
          clear hK K
          (try simp only [List.getElem_toArray]); (try simp only [List.getElem_cons_succ]); (try simp only [List.getElem_cons_zero]); (try simp only [Act.put]); (try simp only [List.setIfInBounds_toArray]); (try simp only [List.set_cons_succ]); (try simp only [List.set_cons_zero])
          refine wpAnyH_take (i := 12) (v := ?vn11) rfl (by kernel_rfl) (by kernel_rfl) (by kernel_rfl) (fun _ _ _ h => h) (Or.inl ⟨by rfl, ?hn11⟩) hS ?rn11
          case hn11 => intro w' hSw; go_simp; (try with_reducible rfl)
          (try simp only [List.getElem_toArray]); (try simp only [List.getElem_cons_succ]); (try simp only [List.getElem_cons_zero]); (try simp only [Act.put]); (try simp only [List.setIfInBounds_toArray]); (try simp only [List.set_cons_succ]); (try simp only [List.set_cons_zero])
          have c4 := K4.one (b * 17 + 1 + i * 4 + part) (by rw [kn_len]; omega)
          have f4 := K4.at.2 (b * 17 + 1 + i * 4 + part)
          refine wpAnyH_ready (rs := [13]) (by kernel_rfl) (by simp) ?_
          refine AllReadyH.cons (o := _) rfl (fun K hK => ?_) AllReadyH.nil
          rw [if_pos (by rfl)]
          go_simp
          have HST : Hid ((kn F (b * 17 + 1 + i * 4)).set (b * 17 + 1 + i * 4 + part) (halfN vv b % 2) = kn F (b * 17 + 1 + (i + 1) * 4)) := kn_step (by omega) (by have := HP.out; omega) HAA.out (fun j h1 h2 h3 => HFN.out b i j HI4.out h1 (by omega) h3)
          have K5 := K4.set1 (b * 17 + 1 + i * 4 + part) (halfN vv b % 2)
          rw [HST.out] at K5
          have O5 : Off [w.heap.size + 1 + 1] w8 (w8.setCell ⟨w.heap.size + 1 + 1, b * 17 + 1 + i * 4 + part, none⟩ (.int .i64 (halfN vv b % 2))) := (Off.refl _ _).setCell _ _ (.inl (by simp))
          have X5 := X4.off O5 (by simp; omega)
          have R5 := R4.off O5 (by simp)
          have V5 := V4.off O5 (by simp; omega)
          have B5 := B4.trans (O5.toBelow B4.size (by simp; omega))
          clear c4 f4 X4 R4 K4 V4 B4 O5
          refine hK.out _ _ (V5.one part (by rw [HRL.out]; omega) |>.trans (by rw [HRV.out])) (fun hS => ?_)
          clear hK K
          (try simp only [List.getElem_toArray]); (try simp only [List.getElem_cons_succ]); (try simp only [List.getElem_cons_zero]); (try simp only [Act.put]); (try simp only [List.setIfInBounds_toArray]); (try simp only [List.set_cons_succ]); (try simp only [List.set_cons_zero])
          refine wpAnyH_done (by kernel_rfl) ?_ _
          clear hS
          generalize w8.setCell ⟨w.heap.size + 1 + 1, b * 17 + 1 + i * 4 + part, none⟩ (.int .i64 (halfN vv b % 2)) = w9 at *
          go_wp2
          go_roundw
          case rel => exact ⟨i + 1, HI4.out, by go_num, X5, R5, K5, B5⟩
          case measure => simp [intOf]; omega
        · obtain rfl : i = 4 := by omega
          have K9 : Blk wr (w.heap.size + 1 + 1) 156 (cells1 (kn F ((b + 1) * 17))) := by rw [show (b + 1) * 17 = b * 17 + 1 + 4 * 4 by omega]; exact K
          go_wp2
          go_roundw
          case rel => exact ⟨b + 1, HB8.out, by go_num, X, R, K9, B⟩
          case measure => simp [intOf]; omega
    · obtain rfl : b = 8 := by omega
      rw [show 8 * 17 = 136 from rfl] at K
      have HKL : Hid ((kn F 136).length = 136) := kn_len _ _
      have HKZ : Hid ((kn F 0).length = 136) := kn_len _ _
      clear HFQ HFA HFN
      go_wp2_with (first | (refine wpList_load_blk rfl 156 _ rfl (w.heap.size + 1 + 1) rfl K Tryz.underlying156 rfl (by rw [cells1_size, HKL.out]; kernel_rfl) ?_) | (refine wpList_store_blk rfl 156 _ _ rfl (w.heap.size + 1) (cells1 (kn F 136)) rfl rfl R (by simp only [cells1_size, HKL.out, HKZ.out]) (by rw [cells1_size, HKL.out]; kernel_rfl) (cells1_one _) ?_; intro w20 R20 O20))
      try go_wp2
      exact bodyPost_ret (v := .agg (cells1 (kn F 136))) (results_blk Tryz.results120 rfl R20 Tryz.underlying156 rfl (by rw [cells1_size, HKL.out]; kernel_rfl)) rfl ⟨rfl, B.trans (O20.toBelow B.size (by simp))⟩
/-- the numbers of one share -/
def shV (F : Nat → Int) (b : Nat) : List Int := (List.range 16).map fun (j : Nat) => F (b * 17 + 1 + j)
def shM (F : Nat → Int) (b : Nat) : MMirror := ⟨F (b * 17), unflat (shV F b)⟩
end Go.Proofs.YtepobckhfodngaoGreat
