/-
  FnTapes answers true whatever bytes it draws from: a tape that is told to a party lacks its lane, and has all others.
-/
import Derived.Test.YtadppilldijijaaDraw2b
import Derived.Test.YtadppilldijijaaSeedI
import Derived.Test.YtadppilldijijaaTapeC
import Derived.Test.YtadppilldijijaaTapeW
import Derived.Test.YtadppilldijijaaSame
import Derived.Test.YtadppilldijijaaLw
import Derived.Deep.RegionHeld3
import Derived.Deep.CutRange
import Derived.Deep.Cut
import Derived.Deep.RegionWith
import Derived.ShutString
import Derived.ChangeOld
import Derived.Below
namespace Go.Proofs.Ytadppilldijijaa.fnTapes
open Go.ChangeShapes Go.WideShapes Go.ChangeAt Go.RowKit
open Go.ChangeMaps (open_string shut_string)
set_option linter.unusedVariables false

theorem own : ownKnob Try.prog.godebug = none := by kernel_rfl
theorem laidOut : laidOutB Try.prog = true := by kernel_rfl

theorem fieldTR_0 (x y : Value) (w : World) : (Instr.field 46 (.agg #[x, y]) 0).run Try.prog w = .ok x w := by kernel_rfl
theorem fieldTR_1 (x y : Value) (w : World) : (Instr.field 46 (.agg #[x, y]) 1).run Try.prog w = .ok (.agg #[y]) w := by kernel_rfl
theorem sl_le901 : ∀ xs : List (List Int), (∀ j, (xs.getD j []).length ≤ 901) → sl xs ≤ 901 * xs.length
  | [], _ => by simp [sl]
  | x :: r, h => by
    have h0 : x.length ≤ 901 := by simpa using h 0
    have h1 := sl_le901 r (fun j => by simpa using h (j + 1))
    simp only [sl, List.length_cons]
    omega
theorem tot_B {xs : List (List Int)} (h : TapeB xs) : tot xs ≤ 1048576 := by
  have := sl_le901 xs h.2
  have := h.1
  rw [tot_eq]
  have : 901 * xs.length ≤ 901 * 4 := Nat.mul_le_mul_left _ h.1
  omega
theorem tapeC_all {xs : List (List Int)} (h4 : xs.length = 4) (h : ∀ j, rowC (xs.getD j []) = 0) : tapeC xs = 0 := by
  unfold tapeC
  rw [if_pos h4]
  exact rowsC_all xs (fun j _ => h j)
theorem tapeC_D {xs : List (List Int)} (h : TapeD xs) : tapeC xs = 0 :=
  tapeC_all h.1 (fun j => rowC_ok (by have := h.2.1 j; omega) ((okB_iff _).2 (fun k _ => h.2.2 j k)))
theorem seedR_zero {s n : Int} (h : (seedR s n).xCode = 0) : tapeC (seedR s n).xTape = 0 ∧ (seedR s n).xTape.length = 4 := by
  unfold seedR at h ⊢
  split
  · rename_i k
    have := seedRows_D s n.toNat (by omega)
    exact ⟨tapeC_D this, this.1⟩
  · rename_i k
    rw [if_neg k] at h
    cases h
theorem getD_set_nil (xs : List (List Int)) (p j : Nat) (hp : p < xs.length) : (xs.set p []).getD j [] = if j = p then [] else xs.getD j [] := by
  rw [List.getD_eq_getElem?_getD, List.getElem?_set]
  split
  · rename_i h
    subst h
    simp
  · rename_i h
    rw [if_neg (fun e => h e.symm), List.getD_eq_getElem?_getD]
theorem tapeForR_zero {xs : List (List Int)} {p : Int} (h : (tapeForR xs p).xCode = 0) : tapeC xs = 0 ∧ (0 ≤ p ∧ p ≤ 3) ∧ tapeC (tapeForR xs p).xTape = 0 ∧ (tapeForR xs p).xTape.length = 4 ∧ ∀ j : Nat, j < 4 → ∀ k : Int, word (tapeForR xs p).xTape j k = if (j : Int) = p then 0 else word xs j k := by
  by_cases h0 : tapeC xs = 0
  · by_cases h1 : 0 ≤ p ∧ p ≤ 3
    · rw [tapeForR_in h0 h1]
      have h4 := tapeC_four h0
      have hp : p.toNat < xs.length := by omega
      refine ⟨h0, h1, tapeC_all (by simp [h4]) (fun j => ?_), by simp [h4], fun j hj k => ?_⟩
      · show rowC ((xs.set p.toNat []).getD j []) = 0
        rw [getD_set_nil _ _ _ hp]
        split
        · rfl
        · exact tapeC_row h0 j
      · show ((xs.set p.toNat []).getD (j : Int).toNat []).getD k.toNat 0 = _
        rw [getD_set_nil _ _ _ hp, Int.toNat_natCast]
        by_cases e : (j : Int) = p
        · rw [if_pos e, if_pos (by omega)]; rfl
        · rw [if_neg e, if_neg (by omega)]; rfl
    · rw [tapeForR_out h0 h1] at h; cases h
  · rw [tapeForR_fault _ h0] at h; exact absurd h h0
set_option maxHeartbeats 16000000 in
set_option maxRecDepth 100000 in
theorem walk (a0 : Option Addr) (len0 cap0 : Nat) (z0 : List Int) (w : World) (w0 : IsRow .u8 w a0 len0 cap0 z0) :
    Calls Try.prog 6 #[.slice a0 len0 cap0] w fun e w' => e = .returned (.bool true) ∧ Below w.heap.size w w' := by
  obtain ⟨zs, rfl, hr, hw⟩ := w0.reads
  clear w0
  have hby := bytes_of hw
  clear hw
  by_cases hl : 1048576 < zs.length
  · go_enter Try.func6, Try.ntmps6
    go_wp2_with fail
    refine (lwBig_yes _ _ _ _ hl).mono ?_
    rintro e w' ⟨rfl, rfl⟩
    go_wp2
    go_ret
    exact ⟨rfl, Below.refl _ _⟩
  · have hl' : zs.length ≤ 1048576 := by omega
    have HR0 : Hid (Reads w .u8 (.slice a0 zs.length cap0) zs) := hr
    clear hr
    have ft0 := fieldTR_0
    have ft1 := fieldTR_1
    have fi0 := field_0
    have fi1 := field_1
    go_enter Try.func6, Try.ntmps6
    go_wp2_with fail
    refine (lwBig_no _ _ _ _ hl').mono ?_
    rintro e w' ⟨rfl, rfl⟩
    go_wp2_with fail
    refine (spec_DrawTapeFor a0 cap0 zs w HR0.out hl' hby).mono ?_
    rintro e w1 ⟨p, c, xs, party, rfl, r3, hTB, B⟩
    have HTB : Hid (tot xs ≤ 1048576) := tot_B hTB
    clear hTB
    have HF : Hid ((tapeForR xs party).xCode = 0 → _) := tapeForR_zero (xs := xs) (p := party)
    have KF := fun W h => impl_TapeFor (.agg #[.slice p xs.length c]) xs party W h
    have KFS := fun W h => spec_TapeFor (.agg #[.slice p xs.length c]) xs party W h HTB.out
    generalize tapeForR xs party = F at *
    go_wp2_with fail
    have X3 := Blk.new w1 42 #[.slice p xs.length c]
    replace r3 := r3.below ((Below.refl _ _).alloc (Nat.le_refl _) (.cells #[.slice p xs.length c] 42))
    replace B := B.alloc B.size (.cells #[.slice p xs.length c] 42)
    generalize w1.heap.size = b3 at *
    refine Calls.at (F := fun V => Blk V b3 42 #[.slice p xs.length c] ∧ ReadsM V (.slice p xs.length c) xs ∧ Below w.heap.size w V) ⟨X3, r3, B⟩ ?_
    clear X3 r3 B
    rintro V1 ⟨X3, r3, B⟩
    refine (KF _ ⟨_, _, rfl, r3⟩).mono ?_
    rintro e w2 ⟨u5, bb5, rfl, ⟨p5, c5, rfl, M5⟩, -, k2⟩
    have r5 := M5.reads
    clear M5
    replace X3 := X3.keep k2
    replace r3 := r3.below k2
    replace B := B.trans (k2.mono B.size)
    clear k2
    go_wp2_with fail
    have X5 := Blk.new w2 46 #[.int .i64 F.xCode, .slice p5 F.xTape.length c5]
    replace X3 := X3.alloc (.cells #[.int .i64 F.xCode, .slice p5 F.xTape.length c5] 46)
    replace r3 := r3.below ((Below.refl _ _).alloc (Nat.le_refl _) (.cells #[.int .i64 F.xCode, .slice p5 F.xTape.length c5] 46))
    replace r5 := r5.below ((Below.refl _ _).alloc (Nat.le_refl _) (.cells #[.int .i64 F.xCode, .slice p5 F.xTape.length c5] 46))
    replace B := B.alloc B.size (.cells #[.int .i64 F.xCode, .slice p5 F.xTape.length c5] 46)
    generalize w2.heap.size = b5 at *
    refine Calls.at (F := fun V => Blk V b3 42 #[.slice p xs.length c] ∧ Blk V b5 46 #[.int .i64 F.xCode, .slice p5 F.xTape.length c5] ∧ ReadsM V (.slice p xs.length c) xs ∧ ReadsM V (.slice p5 F.xTape.length c5) F.xTape ∧ Below w.heap.size w V) ⟨X3, X5, r3, r5, B⟩ ?_
    clear X3 X5 r3 r5 B
    rintro V3 ⟨X3, X5, r3, r5, B⟩
    refine (spec_DrawSeedTape a0 cap0 zs _ (HR0.out.below B) hl' hby).mono ?_
    rintro e w4 ⟨s, n, rfl, k4⟩
    replace X3 := X3.keep k4
    replace X5 := X5.keep k4
    replace r3 := r3.below k4
    replace r5 := r5.below k4
    replace B := B.trans (k4.mono B.size)
    clear k4
    have HJ : Hid ((seedR s n).xCode = 0 → _) := seedR_zero (s := s) (n := n)
    have KJ := fun W => impl_SeedTape s n W
    have KJS := fun W => spec_SeedTape s n W
    generalize seedR s n = J at *
    go_wp2_with fail
    refine Calls.at (F := fun V => Blk V b3 42 #[.slice p xs.length c] ∧ Blk V b5 46 #[.int .i64 F.xCode, .slice p5 F.xTape.length c5] ∧ ReadsM V (.slice p xs.length c) xs ∧ ReadsM V (.slice p5 F.xTape.length c5) F.xTape ∧ Below w.heap.size w V) ⟨X3, X5, r3, r5, B⟩ ?_
    clear X3 X5 r3 r5 B
    rintro V5 ⟨X3, X5, r3, r5, B⟩
    refine (KJ _).mono ?_
    rintro e w6 ⟨u8, bb8, rfl, ⟨p8, c8, rfl, M8⟩, -, k6⟩
    have r8 := M8.reads
    clear M8
    clear KJ
    replace X3 := X3.keep k6
    replace X5 := X5.keep k6
    replace r3 := r3.below k6
    replace r5 := r5.below k6
    replace B := B.trans (k6.mono B.size)
    clear k6
    go_wp2_with fail
    have X8 := Blk.new w6 46 #[.int .i64 J.xCode, .slice p8 J.xTape.length c8]
    replace X3 := X3.alloc (.cells #[.int .i64 J.xCode, .slice p8 J.xTape.length c8] 46)
    replace X5 := X5.alloc (.cells #[.int .i64 J.xCode, .slice p8 J.xTape.length c8] 46)
    replace r3 := r3.below ((Below.refl _ _).alloc (Nat.le_refl _) (.cells #[.int .i64 J.xCode, .slice p8 J.xTape.length c8] 46))
    replace r5 := r5.below ((Below.refl _ _).alloc (Nat.le_refl _) (.cells #[.int .i64 J.xCode, .slice p8 J.xTape.length c8] 46))
    replace r8 := r8.below ((Below.refl _ _).alloc (Nat.le_refl _) (.cells #[.int .i64 J.xCode, .slice p8 J.xTape.length c8] 46))
    replace B := B.alloc B.size (.cells #[.int .i64 J.xCode, .slice p8 J.xTape.length c8] 46)
    generalize hw8 : w6.heap.size = b8 at *
    clear hw8
    generalize w6.alloc (.cells #[.int .i64 J.xCode, .slice p8 J.xTape.length c8] 46) = V8 at *
    go_cut [68] from 34 (fun s wr => s = .bool false ∧ Blk wr b3 42 #[.slice p xs.length c] ∧ Blk wr b5 46 #[.int .i64 F.xCode, .slice p5 F.xTape.length c5] ∧ ReadsM wr (.slice p xs.length c) xs ∧ ReadsM wr (.slice p5 F.xTape.length c5) F.xTape ∧ Below w.heap.size w wr)
    case first =>
      have es : (J.xCode != J.xCode) = false := by simp
      by_cases hj : J.xCode = 0
      · have e8 : (J.xCode == 0) = true := by simpa using hj
        obtain ⟨hj1, hj2⟩ := HJ.out hj
        have KT := fun W h => impl_TapeFault (.slice p8 J.xTape.length c8) J.xTape W h
        rw [hj1] at KT
        have e4 : ((J.xTape.length : Int) != 4) = false := by simp; omega
        have hsm : sameM J.xTape J.xTape = true := decide_eq_true rfl
        clear hj hj1 hj2
        refine wp_region_held (S := fun V => (∀ o, V.cell? ⟨b8, o, none⟩ = (#[.int .i64 J.xCode, .slice p8 J.xTape.length c8] : Array Value)[o]?)) (by kernel_rfl) ?_
        try (change wpAnyH _ _ _ _ _ _ _ _ (World.drew _))
        replace X3 := X3.drew
        replace X5 := X5.drew
        replace X8 := X8.drew
        replace r3 := r3.below (Below.refl _ _).drew
        replace r5 := r5.below (Below.refl _ _).drew
        replace r8 := r8.below (Below.refl _ _).drew
        replace B := B.drew
        have hS : (∀ o, V8.drew.cell? ⟨b8, o, none⟩ = (#[.int .i64 J.xCode, .slice p8 J.xTape.length c8] : Array Value)[o]?) := X8.at.1
        refine wpAnyH_take (i := 0) (v := ?vn1) rfl (by kernel_rfl) (by kernel_rfl) (by kernel_rfl) (fun _ _ _ h => h) (Or.inl ⟨by rfl, ?hn1⟩) hS ?rn1
        case hn1 => intro w' hSw; go_simp; (try with_reducible rfl)
        (try simp only [List.getElem_toArray]); (try simp only [List.getElem_cons_succ]); (try simp only [List.getElem_cons_zero]); (try simp only [Act.put]); (try simp only [List.setIfInBounds_toArray]); (try simp only [List.set_cons_succ]); (try simp only [List.set_cons_zero])
        refine wpAnyH_take (i := 1) (v := ?vn2) rfl (by kernel_rfl) (by kernel_rfl) (by kernel_rfl) (fun _ _ _ h => h) (Or.inl ⟨by rfl, ?hn2⟩) hS ?rn2
        case hn2 => intro w' hSw; go_simp; (try with_reducible rfl)
        (try simp only [List.getElem_toArray]); (try simp only [List.getElem_cons_succ]); (try simp only [List.getElem_cons_zero]); (try simp only [Act.put]); (try simp only [List.setIfInBounds_toArray]); (try simp only [List.set_cons_succ]); (try simp only [List.set_cons_zero])
        refine wpAnyH_take (i := 2) (v := ?vn3) rfl (by kernel_rfl) (by kernel_rfl) (by kernel_rfl) (fun _ _ _ h => h) (Or.inl ⟨by rfl, ?hn3⟩) hS ?rn3
        case hn3 => intro w' hSw; go_simp; (try with_reducible rfl)
        (try simp only [List.getElem_toArray]); (try simp only [List.getElem_cons_succ]); (try simp only [List.getElem_cons_zero]); (try simp only [Act.put]); (try simp only [List.setIfInBounds_toArray]); (try simp only [List.set_cons_succ]); (try simp only [List.set_cons_zero])
        refine wpAnyH_take (i := 3) (v := ?vn4) rfl (by kernel_rfl) (by kernel_rfl) (by kernel_rfl) (fun _ _ _ h => h) (Or.inl ⟨by rfl, ?hn4⟩) hS ?rn4
        case hn4 => intro w' hSw; go_simp; (try with_reducible rfl)
        (try simp only [List.getElem_toArray]); (try simp only [List.getElem_cons_succ]); (try simp only [List.getElem_cons_zero]); (try simp only [Act.put]); (try simp only [List.setIfInBounds_toArray]); (try simp only [List.set_cons_succ]); (try simp only [List.set_cons_zero])
        refine wpAnyH_ready (rs := [4]) (by kernel_rfl) (by simp) ?_
        refine AllReadyH.cons (o := _) rfl (fun K hK => ?_) AllReadyH.nil
        rw [if_pos (by rfl)]
        go_simp
        go_at_call 35
        clear hS
        refine (KJS _).mono ?_
        rintro e w7 ⟨u9, bb9, rfl, ⟨p9, c9, rfl, M9⟩, -, k7⟩
        clear M9
        replace X3 := X3.keep k7
        replace X5 := X5.keep k7
        replace X8 := X8.keep k7
        replace r3 := r3.below k7
        replace r5 := r5.below k7
        replace r8 := r8.below k7
        replace B := B.trans (k7.mono B.size)
        clear k7
        have hS : (∀ o, w7.cell? ⟨b8, o, none⟩ = (#[.int .i64 J.xCode, .slice p8 J.xTape.length c8] : Array Value)[o]?) := X8.at.1
        refine hK.out _ _ hS (fun hS => ?_)
        clear hK K
        (try simp only [List.getElem_toArray]); (try simp only [List.getElem_cons_succ]); (try simp only [List.getElem_cons_zero]); (try simp only [Act.put]); (try simp only [List.setIfInBounds_toArray]); (try simp only [List.set_cons_succ]); (try simp only [List.set_cons_zero])
        refine wpAnyH_take (i := 5) (v := ?vn5) rfl (by kernel_rfl) (by kernel_rfl) (by kernel_rfl) (fun _ _ _ h => h) (Or.inl ⟨by rfl, ?hn5⟩) hS ?rn5
        case hn5 => intro w' hSw; go_simp; (try with_reducible rfl)
        (try simp only [List.getElem_toArray]); (try simp only [List.getElem_cons_succ]); (try simp only [List.getElem_cons_zero]); (try simp only [Act.put]); (try simp only [List.setIfInBounds_toArray]); (try simp only [List.set_cons_succ]); (try simp only [List.set_cons_zero])
        refine wpAnyH_take (i := 6) (v := ?vn6) rfl (by kernel_rfl) (by kernel_rfl) (by kernel_rfl) (fun _ _ _ h => h) (Or.inl ⟨by rfl, ?hn6⟩) hS ?rn6
        case hn6 => intro w' hSw; go_simp; (try with_reducible rfl)
        (try simp only [List.getElem_toArray]); (try simp only [List.getElem_cons_succ]); (try simp only [List.getElem_cons_zero]); (try simp only [Act.put]); (try simp only [List.setIfInBounds_toArray]); (try simp only [List.set_cons_succ]); (try simp only [List.set_cons_zero])
        refine wpAnyH_take (i := 7) (v := ?vn7) rfl (by kernel_rfl) (by kernel_rfl) (by kernel_rfl) (fun _ _ _ h => h) (Or.inl ⟨by rfl, ?hn7⟩) hS ?rn7
        case hn7 => intro w' hSw; go_simp; (try with_reducible rfl)
        (try simp only [List.getElem_toArray]); (try simp only [List.getElem_cons_succ]); (try simp only [List.getElem_cons_zero]); (try simp only [Act.put]); (try simp only [List.setIfInBounds_toArray]); (try simp only [List.set_cons_succ]); (try simp only [List.set_cons_zero])
        refine wpAnyH_take (i := 8) (v := ?vn8) rfl (by kernel_rfl) (by kernel_rfl) (by kernel_rfl) (fun _ _ _ h => h) (Or.inl ⟨by rfl, ?hn8⟩) hS ?rn8
        case hn8 => intro w' hSw; go_simp; (try with_reducible rfl)
        (try simp only [List.getElem_toArray]); (try simp only [List.getElem_cons_succ]); (try simp only [List.getElem_cons_zero]); (try simp only [Act.put]); (try simp only [List.setIfInBounds_toArray]); (try simp only [List.set_cons_succ]); (try simp only [List.set_cons_zero])
        refine wpAnyH_take (i := 9) (v := ?vn9) rfl (by kernel_rfl) (by kernel_rfl) (by kernel_rfl) (fun _ _ _ h => h) (Or.inl ⟨by rfl, ?hn9⟩) hS ?rn9
        case hn9 => intro w' hSw; go_simp; (try with_reducible rfl)
        (try simp only [List.getElem_toArray]); (try simp only [List.getElem_cons_succ]); (try simp only [List.getElem_cons_zero]); (try simp only [Act.put]); (try simp only [List.setIfInBounds_toArray]); (try simp only [List.set_cons_succ]); (try simp only [List.set_cons_zero])
        refine wpAnyH_take (i := 10) (v := ?vn10) rfl (by kernel_rfl) (by kernel_rfl) (by kernel_rfl) (fun _ _ _ h => h) (Or.inl ⟨by rfl, ?hn10⟩) hS ?rn10
        case hn10 => intro w' hSw; go_simp; (try with_reducible rfl)
        (try simp only [List.getElem_toArray]); (try simp only [List.getElem_cons_succ]); (try simp only [List.getElem_cons_zero]); (try simp only [Act.put]); (try simp only [List.setIfInBounds_toArray]); (try simp only [List.set_cons_succ]); (try simp only [List.set_cons_zero])
        refine wpAnyH_take (i := 11) (v := ?vn11) rfl (by kernel_rfl) (by kernel_rfl) (by kernel_rfl) (fun _ _ _ h => h) (Or.inl ⟨by rfl, ?hn11⟩) hS ?rn11
        case hn11 => intro w' hSw; go_simp; (try with_reducible rfl)
        (try simp only [List.getElem_toArray]); (try simp only [List.getElem_cons_succ]); (try simp only [List.getElem_cons_zero]); (try simp only [Act.put]); (try simp only [List.setIfInBounds_toArray]); (try simp only [List.set_cons_succ]); (try simp only [List.set_cons_zero])
        refine wpAnyH_take (i := 12) (v := ?vn12) rfl (by kernel_rfl) (by kernel_rfl) (by kernel_rfl) (fun _ _ _ h => h) (Or.inl ⟨by rfl, ?hn12⟩) hS ?rn12
        case hn12 => intro w' hSw; go_simp; (try with_reducible rfl)
        (try simp only [List.getElem_toArray]); (try simp only [List.getElem_cons_succ]); (try simp only [List.getElem_cons_zero]); (try simp only [Act.put]); (try simp only [List.setIfInBounds_toArray]); (try simp only [List.set_cons_succ]); (try simp only [List.set_cons_zero])
        refine wpAnyH_take (i := 13) (v := ?vn13) rfl (by kernel_rfl) (by kernel_rfl) (by kernel_rfl) (fun _ _ _ h => h) (Or.inl ⟨by rfl, ?hn13⟩) hS ?rn13
        case hn13 => intro w' hSw; go_simp; (try with_reducible rfl)
        (try simp only [List.getElem_toArray]); (try simp only [List.getElem_cons_succ]); (try simp only [List.getElem_cons_zero]); (try simp only [Act.put]); (try simp only [List.setIfInBounds_toArray]); (try simp only [List.set_cons_succ]); (try simp only [List.set_cons_zero])
        refine wpAnyH_ready (rs := [14]) (by kernel_rfl) (by simp) ?_
        refine AllReadyH.cons (o := _) rfl (fun K hK => ?_) AllReadyH.nil
        rw [if_pos (by rfl)]
        go_simp
        go_at_call 36
        clear hS
        refine (KT _ r8).mono ?_
        rintro e w8 ⟨rfl, k8⟩
        replace X3 := X3.keep k8
        replace X5 := X5.keep k8
        replace X8 := X8.keep k8
        replace r3 := r3.below k8
        replace r5 := r5.below k8
        replace r8 := r8.below k8
        replace B := B.trans (k8.mono B.size)
        clear k8
        have hS : (∀ o, w8.cell? ⟨b8, o, none⟩ = (#[.int .i64 J.xCode, .slice p8 J.xTape.length c8] : Array Value)[o]?) := X8.at.1
        refine hK.out _ _ hS (fun hS => ?_)
        clear hK K
        (try simp only [List.getElem_toArray]); (try simp only [List.getElem_cons_succ]); (try simp only [List.getElem_cons_zero]); (try simp only [Act.put]); (try simp only [List.setIfInBounds_toArray]); (try simp only [List.set_cons_succ]); (try simp only [List.set_cons_zero])
        refine wpAnyH_take (i := 15) (v := ?vn14) rfl (by kernel_rfl) (by kernel_rfl) (by kernel_rfl) (fun _ _ _ h => h) (Or.inl ⟨by rfl, ?hn14⟩) hS ?rn14
        case hn14 => intro w' hSw; go_simp; (try with_reducible rfl)
        (try simp only [List.getElem_toArray]); (try simp only [List.getElem_cons_succ]); (try simp only [List.getElem_cons_zero]); (try simp only [Act.put]); (try simp only [List.setIfInBounds_toArray]); (try simp only [List.set_cons_succ]); (try simp only [List.set_cons_zero])
        refine wpAnyH_take (i := 16) (v := ?vn15) rfl (by kernel_rfl) (by kernel_rfl) (by kernel_rfl) (fun _ _ _ h => h) (Or.inl ⟨by rfl, ?hn15⟩) hS ?rn15
        case hn15 => intro w' hSw; go_simp; (try with_reducible rfl)
        (try simp only [List.getElem_toArray]); (try simp only [List.getElem_cons_succ]); (try simp only [List.getElem_cons_zero]); (try simp only [Act.put]); (try simp only [List.setIfInBounds_toArray]); (try simp only [List.set_cons_succ]); (try simp only [List.set_cons_zero])
        refine wpAnyH_take (i := 17) (v := ?vn16) rfl (by kernel_rfl) (by kernel_rfl) (by kernel_rfl) (fun _ _ _ h => h) (Or.inl ⟨by rfl, ?hn16⟩) hS ?rn16
        case hn16 => intro w' hSw; go_simp; (try with_reducible rfl)
        (try simp only [List.getElem_toArray]); (try simp only [List.getElem_cons_succ]); (try simp only [List.getElem_cons_zero]); (try simp only [Act.put]); (try simp only [List.setIfInBounds_toArray]); (try simp only [List.set_cons_succ]); (try simp only [List.set_cons_zero])
        refine wpAnyH_take (i := 18) (v := ?vn17) rfl (by kernel_rfl) (by kernel_rfl) (by kernel_rfl) (fun _ _ _ h => h) (Or.inl ⟨by rfl, ?hn17⟩) hS ?rn17
        case hn17 => intro w' hSw; go_simp; (try with_reducible rfl)
        (try simp only [List.getElem_toArray]); (try simp only [List.getElem_cons_succ]); (try simp only [List.getElem_cons_zero]); (try simp only [Act.put]); (try simp only [List.setIfInBounds_toArray]); (try simp only [List.set_cons_succ]); (try simp only [List.set_cons_zero])
        refine wpAnyH_take (i := 19) (v := ?vn18) rfl (by kernel_rfl) (by kernel_rfl) (by kernel_rfl) (fun _ _ _ h => h) (Or.inl ⟨by rfl, ?hn18⟩) hS ?rn18
        case hn18 => intro w' hSw; go_simp; (try with_reducible rfl)
        (try simp only [List.getElem_toArray]); (try simp only [List.getElem_cons_succ]); (try simp only [List.getElem_cons_zero]); (try simp only [Act.put]); (try simp only [List.setIfInBounds_toArray]); (try simp only [List.set_cons_succ]); (try simp only [List.set_cons_zero])
        refine wpAnyH_take (i := 20) (v := ?vn19) rfl (by kernel_rfl) (by kernel_rfl) (by kernel_rfl) (fun _ _ _ h => h) (Or.inl ⟨by rfl, ?hn19⟩) hS ?rn19
        case hn19 => intro w' hSw; go_simp; (try with_reducible rfl)
        (try simp only [List.getElem_toArray]); (try simp only [List.getElem_cons_succ]); (try simp only [List.getElem_cons_zero]); (try simp only [Act.put]); (try simp only [List.setIfInBounds_toArray]); (try simp only [List.set_cons_succ]); (try simp only [List.set_cons_zero])
        refine wpAnyH_ready (rs := [21]) (by kernel_rfl) (by simp) ?_
        refine AllReadyH.cons (o := _) rfl (fun K hK => ?_) AllReadyH.nil
        rw [if_pos (by rfl)]
        go_simp
        go_at_call 35
        clear hS
        refine (KJS _).mono ?_
        rintro e w9 ⟨u9b, bb9b, rfl, ⟨p9b, c9b, rfl, M9b⟩, -, k9⟩
        replace X3 := X3.keep k9
        replace X5 := X5.keep k9
        replace X8 := X8.keep k9
        replace r3 := r3.below k9
        replace r5 := r5.below k9
        replace r8 := r8.below k9
        replace B := B.trans (k9.mono B.size)
        clear k9
        have r9b := M9b.reads
        have hS : (∀ o, w9.cell? ⟨b8, o, none⟩ = (#[.int .i64 J.xCode, .slice p8 J.xTape.length c8] : Array Value)[o]?) := X8.at.1
        refine hK.out _ _ hS (fun hS => ?_)
        clear hK K
        (try simp only [List.getElem_toArray]); (try simp only [List.getElem_cons_succ]); (try simp only [List.getElem_cons_zero]); (try simp only [Act.put]); (try simp only [List.setIfInBounds_toArray]); (try simp only [List.set_cons_succ]); (try simp only [List.set_cons_zero])
        refine wpAnyH_take (i := 22) (v := ?vn20) rfl (by kernel_rfl) (by kernel_rfl) (by kernel_rfl) (fun _ _ _ h => h) (Or.inl ⟨by rfl, ?hn20⟩) hS ?rn20
        case hn20 => intro w' hSw; go_simp; (try with_reducible rfl)
        (try simp only [List.getElem_toArray]); (try simp only [List.getElem_cons_succ]); (try simp only [List.getElem_cons_zero]); (try simp only [Act.put]); (try simp only [List.setIfInBounds_toArray]); (try simp only [List.set_cons_succ]); (try simp only [List.set_cons_zero])
        refine wpAnyH_ready (rs := [23]) (by kernel_rfl) (by simp) ?_
        refine AllReadyH.cons (o := _) rfl (fun K hK => ?_) AllReadyH.nil
        rw [if_pos (by rfl)]
        go_simp
        go_at_call 37
        clear hS
        refine (impl_SameTapes _ _ J.xTape J.xTape _ ⟨_, _, rfl, r8⟩ ⟨_, _, rfl, r9b⟩).mono ?_
        rintro e w10 ⟨e9, k10⟩
        rw [hsm] at e9
        subst e9
        replace X3 := X3.keep k10
        replace X5 := X5.keep k10
        replace X8 := X8.keep k10
        replace r3 := r3.below k10
        replace r5 := r5.below k10
        replace r8 := r8.below k10
        replace r9b := r9b.below k10
        replace B := B.trans (k10.mono B.size)
        clear k10
        have hS : (∀ o, w10.cell? ⟨b8, o, none⟩ = (#[.int .i64 J.xCode, .slice p8 J.xTape.length c8] : Array Value)[o]?) := X8.at.1
        refine hK.out _ _ hS (fun hS => ?_)
        clear hK K
        (try simp only [List.getElem_toArray]); (try simp only [List.getElem_cons_succ]); (try simp only [List.getElem_cons_zero]); (try simp only [Act.put]); (try simp only [List.setIfInBounds_toArray]); (try simp only [List.set_cons_succ]); (try simp only [List.set_cons_zero])
        refine wpAnyH_take (i := 24) (v := ?vn21) rfl (by kernel_rfl) (by kernel_rfl) (by kernel_rfl) (fun _ _ _ h => h) (Or.inl ⟨by rfl, ?hn21⟩) hS ?rn21
        case hn21 => intro w' hSw; go_simp; (try with_reducible rfl)
        (try simp only [List.getElem_toArray]); (try simp only [List.getElem_cons_succ]); (try simp only [List.getElem_cons_zero]); (try simp only [Act.put]); (try simp only [List.setIfInBounds_toArray]); (try simp only [List.set_cons_succ]); (try simp only [List.set_cons_zero])
        refine wpAnyH_take (i := 25) (v := ?vn22) rfl (by kernel_rfl) (by kernel_rfl) (by kernel_rfl) (fun _ _ _ h => h) (Or.inl ⟨by rfl, ?hn22⟩) hS ?rn22
        case hn22 => intro w' hSw; go_simp; (try with_reducible rfl)
        (try simp only [List.getElem_toArray]); (try simp only [List.getElem_cons_succ]); (try simp only [List.getElem_cons_zero]); (try simp only [Act.put]); (try simp only [List.setIfInBounds_toArray]); (try simp only [List.set_cons_succ]); (try simp only [List.set_cons_zero])
        refine wpAnyH_take (i := 26) (v := ?vn23) rfl (by kernel_rfl) (by kernel_rfl) (by kernel_rfl) (fun _ _ _ h => h) (Or.inl ⟨by rfl, ?hn23⟩) hS ?rn23
        case hn23 => intro w' hSw; go_simp; (try with_reducible rfl)
        (try simp only [List.getElem_toArray]); (try simp only [List.getElem_cons_succ]); (try simp only [List.getElem_cons_zero]); (try simp only [Act.put]); (try simp only [List.setIfInBounds_toArray]); (try simp only [List.set_cons_succ]); (try simp only [List.set_cons_zero])
        refine wpAnyH_take (i := 27) (v := ?vn24) rfl (by kernel_rfl) (by kernel_rfl) (by kernel_rfl) (fun _ _ _ h => h) (Or.inl ⟨by rfl, ?hn24⟩) hS ?rn24
        case hn24 => intro w' hSw; go_simp; (try with_reducible rfl)
        (try simp only [List.getElem_toArray]); (try simp only [List.getElem_cons_succ]); (try simp only [List.getElem_cons_zero]); (try simp only [Act.put]); (try simp only [List.setIfInBounds_toArray]); (try simp only [List.set_cons_succ]); (try simp only [List.set_cons_zero])
        refine wpAnyH_take (i := 28) (v := ?vn25) rfl (by kernel_rfl) (by kernel_rfl) (by kernel_rfl) (fun _ _ _ h => h) (Or.inl ⟨by rfl, ?hn25⟩) hS ?rn25
        case hn25 => intro w' hSw; go_simp; (try with_reducible rfl)
        (try simp only [List.getElem_toArray]); (try simp only [List.getElem_cons_succ]); (try simp only [List.getElem_cons_zero]); (try simp only [Act.put]); (try simp only [List.setIfInBounds_toArray]); (try simp only [List.set_cons_succ]); (try simp only [List.set_cons_zero])
        refine wpAnyH_take (i := 29) (v := ?vn26) rfl (by kernel_rfl) (by kernel_rfl) (by kernel_rfl) (fun _ _ _ h => h) (Or.inl ⟨by rfl, ?hn26⟩) hS ?rn26
        case hn26 => intro w' hSw; go_simp; (try with_reducible rfl)
        (try simp only [List.getElem_toArray]); (try simp only [List.getElem_cons_succ]); (try simp only [List.getElem_cons_zero]); (try simp only [Act.put]); (try simp only [List.setIfInBounds_toArray]); (try simp only [List.set_cons_succ]); (try simp only [List.set_cons_zero])
        refine wpAnyH_take (i := 30) (v := ?vn27) rfl (by kernel_rfl) (by kernel_rfl) (by kernel_rfl) (fun _ _ _ h => h) (Or.inl ⟨by rfl, ?hn27⟩) hS ?rn27
        case hn27 => intro w' hSw; go_simp; (try with_reducible rfl)
        (try simp only [List.getElem_toArray]); (try simp only [List.getElem_cons_succ]); (try simp only [List.getElem_cons_zero]); (try simp only [Act.put]); (try simp only [List.setIfInBounds_toArray]); (try simp only [List.set_cons_succ]); (try simp only [List.set_cons_zero])
        refine wpAnyH_take (i := 31) (v := ?vn28) rfl (by kernel_rfl) (by kernel_rfl) (by kernel_rfl) (fun _ _ _ h => h) (Or.inl ⟨by rfl, ?hn28⟩) hS ?rn28
        case hn28 => intro w' hSw; go_simp; (try with_reducible rfl)
        (try simp only [List.getElem_toArray]); (try simp only [List.getElem_cons_succ]); (try simp only [List.getElem_cons_zero]); (try simp only [Act.put]); (try simp only [List.setIfInBounds_toArray]); (try simp only [List.set_cons_succ]); (try simp only [List.set_cons_zero])
        refine wpAnyH_take (i := 32) (v := ?vn29) rfl (by kernel_rfl) (by kernel_rfl) (by kernel_rfl) (fun _ _ _ h => h) (Or.inl ⟨by rfl, ?hn29⟩) hS ?rn29
        case hn29 => intro w' hSw; go_simp; (try with_reducible rfl)
        (try simp only [List.getElem_toArray]); (try simp only [List.getElem_cons_succ]); (try simp only [List.getElem_cons_zero]); (try simp only [Act.put]); (try simp only [List.setIfInBounds_toArray]); (try simp only [List.set_cons_succ]); (try simp only [List.set_cons_zero])
        refine wpAnyH_take (i := 33) (v := ?vn30) rfl (by kernel_rfl) (by kernel_rfl) (by kernel_rfl) (fun _ _ _ h => h) (Or.inl ⟨by rfl, ?hn30⟩) hS ?rn30
        case hn30 => intro w' hSw; go_simp; (try with_reducible rfl)
        (try simp only [List.getElem_toArray]); (try simp only [List.getElem_cons_succ]); (try simp only [List.getElem_cons_zero]); (try simp only [Act.put]); (try simp only [List.setIfInBounds_toArray]); (try simp only [List.set_cons_succ]); (try simp only [List.set_cons_zero])
        refine wpAnyH_take (i := 34) (v := ?vn31) rfl (by kernel_rfl) (by kernel_rfl) (by kernel_rfl) (fun _ _ _ h => h) (Or.inl ⟨by rfl, ?hn31⟩) hS ?rn31
        case hn31 => intro w' hSw; go_simp; (try with_reducible rfl)
        (try simp only [List.getElem_toArray]); (try simp only [List.getElem_cons_succ]); (try simp only [List.getElem_cons_zero]); (try simp only [Act.put]); (try simp only [List.setIfInBounds_toArray]); (try simp only [List.set_cons_succ]); (try simp only [List.set_cons_zero])
        refine wpAnyH_done (by kernel_rfl) ?_ _
        clear hS
        go_wp2
        go_meet
        case rel => exact ⟨rfl, X3, X5, r3, r5, B⟩
      · have e8 : (J.xCode == 0) = false := by simpa using hj
        clear hj
        refine wp_region_held (S := fun V => (∀ o, V.cell? ⟨b8, o, none⟩ = (#[.int .i64 J.xCode, .slice p8 J.xTape.length c8] : Array Value)[o]?)) (by kernel_rfl) ?_
        try (change wpAnyH _ _ _ _ _ _ _ _ (World.drew _))
        replace X3 := X3.drew
        replace X5 := X5.drew
        replace X8 := X8.drew
        replace r3 := r3.below (Below.refl _ _).drew
        replace r5 := r5.below (Below.refl _ _).drew
        replace r8 := r8.below (Below.refl _ _).drew
        replace B := B.drew
        have hS : (∀ o, V8.drew.cell? ⟨b8, o, none⟩ = (#[.int .i64 J.xCode, .slice p8 J.xTape.length c8] : Array Value)[o]?) := X8.at.1
        refine wpAnyH_take (i := 0) (v := ?vn32) rfl (by kernel_rfl) (by kernel_rfl) (by kernel_rfl) (fun _ _ _ h => h) (Or.inl ⟨by rfl, ?hn32⟩) hS ?rn32
        case hn32 => intro w' hSw; go_simp; (try with_reducible rfl)
        (try simp only [List.getElem_toArray]); (try simp only [List.getElem_cons_succ]); (try simp only [List.getElem_cons_zero]); (try simp only [Act.put]); (try simp only [List.setIfInBounds_toArray]); (try simp only [List.set_cons_succ]); (try simp only [List.set_cons_zero])
        refine wpAnyH_take (i := 1) (v := ?vn33) rfl (by kernel_rfl) (by kernel_rfl) (by kernel_rfl) (fun _ _ _ h => h) (Or.inl ⟨by rfl, ?hn33⟩) hS ?rn33
        case hn33 => intro w' hSw; go_simp; (try with_reducible rfl)
        (try simp only [List.getElem_toArray]); (try simp only [List.getElem_cons_succ]); (try simp only [List.getElem_cons_zero]); (try simp only [Act.put]); (try simp only [List.setIfInBounds_toArray]); (try simp only [List.set_cons_succ]); (try simp only [List.set_cons_zero])
        refine wpAnyH_take (i := 2) (v := ?vn34) rfl (by kernel_rfl) (by kernel_rfl) (by kernel_rfl) (fun _ _ _ h => h) (Or.inl ⟨by rfl, ?hn34⟩) hS ?rn34
        case hn34 => intro w' hSw; go_simp; (try with_reducible rfl)
        (try simp only [List.getElem_toArray]); (try simp only [List.getElem_cons_succ]); (try simp only [List.getElem_cons_zero]); (try simp only [Act.put]); (try simp only [List.setIfInBounds_toArray]); (try simp only [List.set_cons_succ]); (try simp only [List.set_cons_zero])
        refine wpAnyH_take (i := 3) (v := ?vn35) rfl (by kernel_rfl) (by kernel_rfl) (by kernel_rfl) (fun _ _ _ h => h) (Or.inl ⟨by rfl, ?hn35⟩) hS ?rn35
        case hn35 => intro w' hSw; go_simp; (try with_reducible rfl)
        (try simp only [List.getElem_toArray]); (try simp only [List.getElem_cons_succ]); (try simp only [List.getElem_cons_zero]); (try simp only [Act.put]); (try simp only [List.setIfInBounds_toArray]); (try simp only [List.set_cons_succ]); (try simp only [List.set_cons_zero])
        refine wpAnyH_ready (rs := [4]) (by kernel_rfl) (by simp) ?_
        refine AllReadyH.cons (o := _) rfl (fun K hK => ?_) AllReadyH.nil
        rw [if_pos (by rfl)]
        go_simp
        go_at_call 35
        clear hS
        refine (KJS _).mono ?_
        rintro e w11 ⟨u9, bb9, rfl, ⟨p9, c9, rfl, M9⟩, -, k11⟩
        clear M9
        replace X3 := X3.keep k11
        replace X5 := X5.keep k11
        replace X8 := X8.keep k11
        replace r3 := r3.below k11
        replace r5 := r5.below k11
        replace r8 := r8.below k11
        replace B := B.trans (k11.mono B.size)
        clear k11
        have hS : (∀ o, w11.cell? ⟨b8, o, none⟩ = (#[.int .i64 J.xCode, .slice p8 J.xTape.length c8] : Array Value)[o]?) := X8.at.1
        refine hK.out _ _ hS (fun hS => ?_)
        clear hK K
        (try simp only [List.getElem_toArray]); (try simp only [List.getElem_cons_succ]); (try simp only [List.getElem_cons_zero]); (try simp only [Act.put]); (try simp only [List.setIfInBounds_toArray]); (try simp only [List.set_cons_succ]); (try simp only [List.set_cons_zero])
        refine wpAnyH_take (i := 5) (v := ?vn36) rfl (by kernel_rfl) (by kernel_rfl) (by kernel_rfl) (fun _ _ _ h => h) (Or.inl ⟨by rfl, ?hn36⟩) hS ?rn36
        case hn36 => intro w' hSw; go_simp; (try with_reducible rfl)
        (try simp only [List.getElem_toArray]); (try simp only [List.getElem_cons_succ]); (try simp only [List.getElem_cons_zero]); (try simp only [Act.put]); (try simp only [List.setIfInBounds_toArray]); (try simp only [List.set_cons_succ]); (try simp only [List.set_cons_zero])
        refine wpAnyH_take (i := 6) (v := ?vn37) rfl (by kernel_rfl) (by kernel_rfl) (by kernel_rfl) (fun _ _ _ h => h) (Or.inl ⟨by rfl, ?hn37⟩) hS ?rn37
        case hn37 => intro w' hSw; go_simp; (try with_reducible rfl)
        (try simp only [List.getElem_toArray]); (try simp only [List.getElem_cons_succ]); (try simp only [List.getElem_cons_zero]); (try simp only [Act.put]); (try simp only [List.setIfInBounds_toArray]); (try simp only [List.set_cons_succ]); (try simp only [List.set_cons_zero])
        refine wpAnyH_take (i := 7) (v := ?vn38) rfl (by kernel_rfl) (by kernel_rfl) (by kernel_rfl) (fun _ _ _ h => h) (Or.inl ⟨by rfl, ?hn38⟩) hS ?rn38
        case hn38 => intro w' hSw; go_simp; (try with_reducible rfl)
        (try simp only [List.getElem_toArray]); (try simp only [List.getElem_cons_succ]); (try simp only [List.getElem_cons_zero]); (try simp only [Act.put]); (try simp only [List.setIfInBounds_toArray]); (try simp only [List.set_cons_succ]); (try simp only [List.set_cons_zero])
        refine wpAnyH_take (i := 8) (v := ?vn39) rfl (by kernel_rfl) (by kernel_rfl) (by kernel_rfl) (fun _ _ _ h => h) (Or.inl ⟨by rfl, ?hn39⟩) hS ?rn39
        case hn39 => intro w' hSw; go_simp; (try with_reducible rfl)
        (try simp only [List.getElem_toArray]); (try simp only [List.getElem_cons_succ]); (try simp only [List.getElem_cons_zero]); (try simp only [Act.put]); (try simp only [List.setIfInBounds_toArray]); (try simp only [List.set_cons_succ]); (try simp only [List.set_cons_zero])
        refine wpAnyH_take (i := 9) (v := ?vn40) rfl (by kernel_rfl) (by kernel_rfl) (by kernel_rfl) (fun _ _ _ h => h) (Or.inl ⟨by rfl, ?hn40⟩) hS ?rn40
        case hn40 => intro w' hSw; go_simp; (try with_reducible rfl)
        (try simp only [List.getElem_toArray]); (try simp only [List.getElem_cons_succ]); (try simp only [List.getElem_cons_zero]); (try simp only [Act.put]); (try simp only [List.setIfInBounds_toArray]); (try simp only [List.set_cons_succ]); (try simp only [List.set_cons_zero])
        refine wpAnyH_take (i := 10) (v := ?vn41) rfl (by kernel_rfl) (by kernel_rfl) (by kernel_rfl) (fun _ _ _ h => h) (Or.inl ⟨by rfl, ?hn41⟩) hS ?rn41
        case hn41 => intro w' hSw; go_simp; (try with_reducible rfl)
        (try simp only [List.getElem_toArray]); (try simp only [List.getElem_cons_succ]); (try simp only [List.getElem_cons_zero]); (try simp only [Act.put]); (try simp only [List.setIfInBounds_toArray]); (try simp only [List.set_cons_succ]); (try simp only [List.set_cons_zero])
        refine wpAnyH_take (i := 11) (v := ?vn42) rfl (by kernel_rfl) (by kernel_rfl) (by kernel_rfl) (fun _ _ _ h => h) (Or.inl ⟨by rfl, ?hn42⟩) hS ?rn42
        case hn42 => intro w' hSw; go_simp; (try with_reducible rfl)
        (try simp only [List.getElem_toArray]); (try simp only [List.getElem_cons_succ]); (try simp only [List.getElem_cons_zero]); (try simp only [Act.put]); (try simp only [List.setIfInBounds_toArray]); (try simp only [List.set_cons_succ]); (try simp only [List.set_cons_zero])
        refine wpAnyH_take (i := 12) (v := undef) rfl (by kernel_rfl) (by kernel_rfl) (by kernel_rfl) (fun _ _ _ h => h) (Or.inr ⟨by rfl, rfl⟩) hS ?_
        (try simp only [List.getElem_toArray]); (try simp only [List.getElem_cons_succ]); (try simp only [List.getElem_cons_zero]); (try simp only [Act.put]); (try simp only [List.setIfInBounds_toArray]); (try simp only [List.set_cons_succ]); (try simp only [List.set_cons_zero])
        refine wpAnyH_take (i := 13) (v := undef) rfl (by kernel_rfl) (by kernel_rfl) (by kernel_rfl) (fun _ _ _ h => h) (Or.inr ⟨by rfl, rfl⟩) hS ?_
        (try simp only [List.getElem_toArray]); (try simp only [List.getElem_cons_succ]); (try simp only [List.getElem_cons_zero]); (try simp only [Act.put]); (try simp only [List.setIfInBounds_toArray]); (try simp only [List.set_cons_succ]); (try simp only [List.set_cons_zero])
        refine wpAnyH_take (i := 14) (v := undef) rfl (by kernel_rfl) (by kernel_rfl) (by kernel_rfl) (fun _ _ _ h => h) (Or.inr ⟨by rfl, rfl⟩) hS ?_
        (try simp only [List.getElem_toArray]); (try simp only [List.getElem_cons_succ]); (try simp only [List.getElem_cons_zero]); (try simp only [Act.put]); (try simp only [List.setIfInBounds_toArray]); (try simp only [List.set_cons_succ]); (try simp only [List.set_cons_zero])
        refine wpAnyH_take (i := 15) (v := undef) rfl (by kernel_rfl) (by kernel_rfl) (by kernel_rfl) (fun _ _ _ h => h) (Or.inr ⟨by rfl, rfl⟩) hS ?_
        (try simp only [List.getElem_toArray]); (try simp only [List.getElem_cons_succ]); (try simp only [List.getElem_cons_zero]); (try simp only [Act.put]); (try simp only [List.setIfInBounds_toArray]); (try simp only [List.set_cons_succ]); (try simp only [List.set_cons_zero])
        refine wpAnyH_take (i := 16) (v := undef) rfl (by kernel_rfl) (by kernel_rfl) (by kernel_rfl) (fun _ _ _ h => h) (Or.inr ⟨by rfl, rfl⟩) hS ?_
        (try simp only [List.getElem_toArray]); (try simp only [List.getElem_cons_succ]); (try simp only [List.getElem_cons_zero]); (try simp only [Act.put]); (try simp only [List.setIfInBounds_toArray]); (try simp only [List.set_cons_succ]); (try simp only [List.set_cons_zero])
        refine wpAnyH_take (i := 17) (v := undef) rfl (by kernel_rfl) (by kernel_rfl) (by kernel_rfl) (fun _ _ _ h => h) (Or.inr ⟨by rfl, rfl⟩) hS ?_
        (try simp only [List.getElem_toArray]); (try simp only [List.getElem_cons_succ]); (try simp only [List.getElem_cons_zero]); (try simp only [Act.put]); (try simp only [List.setIfInBounds_toArray]); (try simp only [List.set_cons_succ]); (try simp only [List.set_cons_zero])
        refine wpAnyH_take (i := 18) (v := undef) rfl (by kernel_rfl) (by kernel_rfl) (by kernel_rfl) (fun _ _ _ h => h) (Or.inr ⟨by rfl, rfl⟩) hS ?_
        (try simp only [List.getElem_toArray]); (try simp only [List.getElem_cons_succ]); (try simp only [List.getElem_cons_zero]); (try simp only [Act.put]); (try simp only [List.setIfInBounds_toArray]); (try simp only [List.set_cons_succ]); (try simp only [List.set_cons_zero])
        refine wpAnyH_take (i := 19) (v := undef) rfl (by kernel_rfl) (by kernel_rfl) (by kernel_rfl) (fun _ _ _ h => h) (Or.inr ⟨by rfl, rfl⟩) hS ?_
        (try simp only [List.getElem_toArray]); (try simp only [List.getElem_cons_succ]); (try simp only [List.getElem_cons_zero]); (try simp only [Act.put]); (try simp only [List.setIfInBounds_toArray]); (try simp only [List.set_cons_succ]); (try simp only [List.set_cons_zero])
        refine wpAnyH_take (i := 20) (v := undef) rfl (by kernel_rfl) (by kernel_rfl) (by kernel_rfl) (fun _ _ _ h => h) (Or.inr ⟨by rfl, rfl⟩) hS ?_
        (try simp only [List.getElem_toArray]); (try simp only [List.getElem_cons_succ]); (try simp only [List.getElem_cons_zero]); (try simp only [Act.put]); (try simp only [List.setIfInBounds_toArray]); (try simp only [List.set_cons_succ]); (try simp only [List.set_cons_zero])
        refine wpAnyH_take (i := 21) (v := undef) rfl (by kernel_rfl) (by kernel_rfl) (by kernel_rfl) (fun _ _ _ h => h) (Or.inr ⟨by rfl, rfl⟩) hS ?_
        (try simp only [List.getElem_toArray]); (try simp only [List.getElem_cons_succ]); (try simp only [List.getElem_cons_zero]); (try simp only [Act.put]); (try simp only [List.setIfInBounds_toArray]); (try simp only [List.set_cons_succ]); (try simp only [List.set_cons_zero])
        refine wpAnyH_take (i := 22) (v := undef) rfl (by kernel_rfl) (by kernel_rfl) (by kernel_rfl) (fun _ _ _ h => h) (Or.inr ⟨by rfl, rfl⟩) hS ?_
        (try simp only [List.getElem_toArray]); (try simp only [List.getElem_cons_succ]); (try simp only [List.getElem_cons_zero]); (try simp only [Act.put]); (try simp only [List.setIfInBounds_toArray]); (try simp only [List.set_cons_succ]); (try simp only [List.set_cons_zero])
        refine wpAnyH_take (i := 23) (v := undef) rfl (by kernel_rfl) (by kernel_rfl) (by kernel_rfl) (fun _ _ _ h => h) (Or.inr ⟨by rfl, rfl⟩) hS ?_
        (try simp only [List.getElem_toArray]); (try simp only [List.getElem_cons_succ]); (try simp only [List.getElem_cons_zero]); (try simp only [Act.put]); (try simp only [List.setIfInBounds_toArray]); (try simp only [List.set_cons_succ]); (try simp only [List.set_cons_zero])
        refine wpAnyH_take (i := 24) (v := undef) rfl (by kernel_rfl) (by kernel_rfl) (by kernel_rfl) (fun _ _ _ h => h) (Or.inr ⟨by rfl, rfl⟩) hS ?_
        (try simp only [List.getElem_toArray]); (try simp only [List.getElem_cons_succ]); (try simp only [List.getElem_cons_zero]); (try simp only [Act.put]); (try simp only [List.setIfInBounds_toArray]); (try simp only [List.set_cons_succ]); (try simp only [List.set_cons_zero])
        refine wpAnyH_take (i := 25) (v := undef) rfl (by kernel_rfl) (by kernel_rfl) (by kernel_rfl) (fun _ _ _ h => h) (Or.inr ⟨by rfl, rfl⟩) hS ?_
        (try simp only [List.getElem_toArray]); (try simp only [List.getElem_cons_succ]); (try simp only [List.getElem_cons_zero]); (try simp only [Act.put]); (try simp only [List.setIfInBounds_toArray]); (try simp only [List.set_cons_succ]); (try simp only [List.set_cons_zero])
        refine wpAnyH_take (i := 26) (v := undef) rfl (by kernel_rfl) (by kernel_rfl) (by kernel_rfl) (fun _ _ _ h => h) (Or.inr ⟨by rfl, rfl⟩) hS ?_
        (try simp only [List.getElem_toArray]); (try simp only [List.getElem_cons_succ]); (try simp only [List.getElem_cons_zero]); (try simp only [Act.put]); (try simp only [List.setIfInBounds_toArray]); (try simp only [List.set_cons_succ]); (try simp only [List.set_cons_zero])
        refine wpAnyH_take (i := 27) (v := undef) rfl (by kernel_rfl) (by kernel_rfl) (by kernel_rfl) (fun _ _ _ h => h) (Or.inr ⟨by rfl, rfl⟩) hS ?_
        (try simp only [List.getElem_toArray]); (try simp only [List.getElem_cons_succ]); (try simp only [List.getElem_cons_zero]); (try simp only [Act.put]); (try simp only [List.setIfInBounds_toArray]); (try simp only [List.set_cons_succ]); (try simp only [List.set_cons_zero])
        refine wpAnyH_take (i := 28) (v := undef) rfl (by kernel_rfl) (by kernel_rfl) (by kernel_rfl) (fun _ _ _ h => h) (Or.inr ⟨by rfl, rfl⟩) hS ?_
        (try simp only [List.getElem_toArray]); (try simp only [List.getElem_cons_succ]); (try simp only [List.getElem_cons_zero]); (try simp only [Act.put]); (try simp only [List.setIfInBounds_toArray]); (try simp only [List.set_cons_succ]); (try simp only [List.set_cons_zero])
        refine wpAnyH_take (i := 29) (v := undef) rfl (by kernel_rfl) (by kernel_rfl) (by kernel_rfl) (fun _ _ _ h => h) (Or.inr ⟨by rfl, rfl⟩) hS ?_
        (try simp only [List.getElem_toArray]); (try simp only [List.getElem_cons_succ]); (try simp only [List.getElem_cons_zero]); (try simp only [Act.put]); (try simp only [List.setIfInBounds_toArray]); (try simp only [List.set_cons_succ]); (try simp only [List.set_cons_zero])
        refine wpAnyH_take (i := 30) (v := undef) rfl (by kernel_rfl) (by kernel_rfl) (by kernel_rfl) (fun _ _ _ h => h) (Or.inr ⟨by rfl, rfl⟩) hS ?_
        (try simp only [List.getElem_toArray]); (try simp only [List.getElem_cons_succ]); (try simp only [List.getElem_cons_zero]); (try simp only [Act.put]); (try simp only [List.setIfInBounds_toArray]); (try simp only [List.set_cons_succ]); (try simp only [List.set_cons_zero])
        refine wpAnyH_take (i := 31) (v := undef) rfl (by kernel_rfl) (by kernel_rfl) (by kernel_rfl) (fun _ _ _ h => h) (Or.inr ⟨by rfl, rfl⟩) hS ?_
        (try simp only [List.getElem_toArray]); (try simp only [List.getElem_cons_succ]); (try simp only [List.getElem_cons_zero]); (try simp only [Act.put]); (try simp only [List.setIfInBounds_toArray]); (try simp only [List.set_cons_succ]); (try simp only [List.set_cons_zero])
        refine wpAnyH_take (i := 32) (v := undef) rfl (by kernel_rfl) (by kernel_rfl) (by kernel_rfl) (fun _ _ _ h => h) (Or.inr ⟨by rfl, rfl⟩) hS ?_
        (try simp only [List.getElem_toArray]); (try simp only [List.getElem_cons_succ]); (try simp only [List.getElem_cons_zero]); (try simp only [Act.put]); (try simp only [List.setIfInBounds_toArray]); (try simp only [List.set_cons_succ]); (try simp only [List.set_cons_zero])
        refine wpAnyH_take (i := 33) (v := ?vn43) rfl (by kernel_rfl) (by kernel_rfl) (by kernel_rfl) (fun _ _ _ h => h) (Or.inl ⟨by rfl, ?hn43⟩) hS ?rn43
        case hn43 => intro w' hSw; go_simp; (try with_reducible rfl)
        (try simp only [List.getElem_toArray]); (try simp only [List.getElem_cons_succ]); (try simp only [List.getElem_cons_zero]); (try simp only [Act.put]); (try simp only [List.setIfInBounds_toArray]); (try simp only [List.set_cons_succ]); (try simp only [List.set_cons_zero])
        refine wpAnyH_take (i := 34) (v := ?vn44) rfl (by kernel_rfl) (by kernel_rfl) (by kernel_rfl) (fun _ _ _ h => h) (Or.inl ⟨by rfl, ?hn44⟩) hS ?rn44
        case hn44 => intro w' hSw; go_simp; (try with_reducible rfl)
        (try simp only [List.getElem_toArray]); (try simp only [List.getElem_cons_succ]); (try simp only [List.getElem_cons_zero]); (try simp only [Act.put]); (try simp only [List.setIfInBounds_toArray]); (try simp only [List.set_cons_succ]); (try simp only [List.set_cons_zero])
        refine wpAnyH_done (by kernel_rfl) ?_ _
        clear hS
        go_wp2
        go_meet
        case rel => exact ⟨rfl, X3, X5, r3, r5, B⟩
    case rest =>
      clear X3 X5 X8 r3 r5 r8 B KJS HJ
      obtain ⟨rfl, X3, X5, r3, r5, B⟩ := hcut
      obtain ⟨wz, ewz⟩ : ∃ x : World, x = wc := ⟨_, rfl⟩
      subst ewz
      go_wp2_with fail
      refine (spec_DrawWordAt a0 cap0 zs _ (HR0.out.below B) hl' hby).mono ?_
      rintro e w12 ⟨p9, c9, ys, lane, at9, rfl, r9, hB9, k12⟩
      clear hB9
      replace X3 := X3.keep k12
      replace X5 := X5.keep k12
      replace r3 := r3.below k12
      replace r5 := r5.below k12
      replace B := B.trans (k12.mono B.size)
      clear k12
      have KW := fun W h => impl_WordAt (.agg #[.slice p9 ys.length c9]) ys lane at9 W h
      have KWS := fun W h => spec_WordAt (.agg #[.slice p9 ys.length c9]) ys lane at9 W h
      generalize wordR ys lane at9 = zr at *
      go_wp2_with fail
      have X9 := Blk.new w12 42 #[.slice p9 ys.length c9]
      replace X3 := X3.alloc (.cells #[.slice p9 ys.length c9] 42)
      replace X5 := X5.alloc (.cells #[.slice p9 ys.length c9] 42)
      replace r3 := r3.below ((Below.refl _ _).alloc (Nat.le_refl _) (.cells #[.slice p9 ys.length c9] 42))
      replace r5 := r5.below ((Below.refl _ _).alloc (Nat.le_refl _) (.cells #[.slice p9 ys.length c9] 42))
      replace r9 := r9.below ((Below.refl _ _).alloc (Nat.le_refl _) (.cells #[.slice p9 ys.length c9] 42))
      replace B := B.alloc B.size (.cells #[.slice p9 ys.length c9] 42)
      generalize w12.heap.size = b9 at *
      refine Calls.at (F := fun V => Blk V b3 42 #[.slice p xs.length c] ∧ Blk V b5 46 #[.int .i64 F.xCode, .slice p5 F.xTape.length c5] ∧ Blk V b9 42 #[.slice p9 ys.length c9] ∧ ReadsM V (.slice p xs.length c) xs ∧ ReadsM V (.slice p5 F.xTape.length c5) F.xTape ∧ ReadsM V (.slice p9 ys.length c9) ys ∧ Below w.heap.size w V) ⟨X3, X5, X9, r3, r5, r9, B⟩ ?_
      clear X3 X5 X9 r3 r5 r9 B
      rintro V13 ⟨X3, X5, X9, r3, r5, r9, B⟩
      refine (KW _ ⟨_, _, rfl, r9⟩).mono ?_
      rintro e w14 ⟨u12, rfl, hu12, k14⟩
      unfold RdIntResult at hu12
      subst hu12
      dsimp only
      replace X3 := X3.keep k14
      replace X5 := X5.keep k14
      replace X9 := X9.keep k14
      replace r3 := r3.below k14
      replace r5 := r5.below k14
      replace r9 := r9.below k14
      replace B := B.trans (k14.mono B.size)
      clear k14
      go_wp2_with fail
      have X12 := Blk.new w14 27 #[.int .i64 zr.xCode, .int .i64 zr.xValue]
      replace X3 := X3.alloc (.cells #[.int .i64 zr.xCode, .int .i64 zr.xValue] 27)
      replace X5 := X5.alloc (.cells #[.int .i64 zr.xCode, .int .i64 zr.xValue] 27)
      replace X9 := X9.alloc (.cells #[.int .i64 zr.xCode, .int .i64 zr.xValue] 27)
      replace r3 := r3.below ((Below.refl _ _).alloc (Nat.le_refl _) (.cells #[.int .i64 zr.xCode, .int .i64 zr.xValue] 27))
      replace r5 := r5.below ((Below.refl _ _).alloc (Nat.le_refl _) (.cells #[.int .i64 zr.xCode, .int .i64 zr.xValue] 27))
      replace r9 := r9.below ((Below.refl _ _).alloc (Nat.le_refl _) (.cells #[.int .i64 zr.xCode, .int .i64 zr.xValue] 27))
      replace B := B.alloc B.size (.cells #[.int .i64 zr.xCode, .int .i64 zr.xValue] 27)
      generalize hw12 : w14.heap.size = b12 at *
      clear hw12
      generalize w14.alloc (.cells #[.int .i64 zr.xCode, .int .i64 zr.xValue] 27) = V12 at *
      have ez0 : (zr.xCode != zr.xCode) = false := by simp
      have ez1 : (zr.xValue != zr.xValue) = false := by simp
      refine wp_region_held (S := fun V => (∀ o, V.cell? ⟨b9, o, none⟩ = (#[.slice p9 ys.length c9] : Array Value)[o]?) ∧ (∀ o, V.cell? ⟨b12, o, none⟩ = (#[.int .i64 zr.xCode, .int .i64 zr.xValue] : Array Value)[o]?)) (by kernel_rfl) ?_
      try (change wpAnyH _ _ _ _ _ _ _ _ (World.drew _))
      replace X3 := X3.drew
      replace X5 := X5.drew
      replace X9 := X9.drew
      replace X12 := X12.drew
      replace r3 := r3.below (Below.refl _ _).drew
      replace r5 := r5.below (Below.refl _ _).drew
      replace r9 := r9.below (Below.refl _ _).drew
      replace B := B.drew
      have hS : (∀ o, V12.drew.cell? ⟨b9, o, none⟩ = (#[.slice p9 ys.length c9] : Array Value)[o]?) ∧ (∀ o, V12.drew.cell? ⟨b12, o, none⟩ = (#[.int .i64 zr.xCode, .int .i64 zr.xValue] : Array Value)[o]?) := ⟨X9.at.1, X12.at.1⟩
      refine wpAnyH_take (i := 0) (v := ?vn45) rfl (by kernel_rfl) (by kernel_rfl) (by kernel_rfl) (fun _ _ _ h => h) (Or.inl ⟨by rfl, ?hn45⟩) hS ?rn45
      case hn45 => intro w' hSw; go_simp; (try with_reducible rfl)
      (try simp only [List.getElem_toArray]); (try simp only [List.getElem_cons_succ]); (try simp only [List.getElem_cons_zero]); (try simp only [Act.put]); (try simp only [List.setIfInBounds_toArray]); (try simp only [List.set_cons_succ]); (try simp only [List.set_cons_zero])
      refine wpAnyH_take (i := 1) (v := ?vn46) rfl (by kernel_rfl) (by kernel_rfl) (by kernel_rfl) (fun _ _ _ h => h) (Or.inl ⟨by rfl, ?hn46⟩) hS ?rn46
      case hn46 => intro w' hSw; go_simp; (try with_reducible rfl)
      (try simp only [List.getElem_toArray]); (try simp only [List.getElem_cons_succ]); (try simp only [List.getElem_cons_zero]); (try simp only [Act.put]); (try simp only [List.setIfInBounds_toArray]); (try simp only [List.set_cons_succ]); (try simp only [List.set_cons_zero])
      refine wpAnyH_take (i := 2) (v := ?vn47) rfl (by kernel_rfl) (by kernel_rfl) (by kernel_rfl) (fun _ _ _ h => h) (Or.inl ⟨by rfl, ?hn47⟩) hS ?rn47
      case hn47 => intro w' hSw; go_simp; (try with_reducible rfl)
      (try simp only [List.getElem_toArray]); (try simp only [List.getElem_cons_succ]); (try simp only [List.getElem_cons_zero]); (try simp only [Act.put]); (try simp only [List.setIfInBounds_toArray]); (try simp only [List.set_cons_succ]); (try simp only [List.set_cons_zero])
      refine wpAnyH_take (i := 3) (v := ?vn48) rfl (by kernel_rfl) (by kernel_rfl) (by kernel_rfl) (fun _ _ _ h => h) (Or.inl ⟨by rfl, ?hn48⟩) hS ?rn48
      case hn48 => intro w' hSw; go_simp; (try with_reducible rfl)
      (try simp only [List.getElem_toArray]); (try simp only [List.getElem_cons_succ]); (try simp only [List.getElem_cons_zero]); (try simp only [Act.put]); (try simp only [List.setIfInBounds_toArray]); (try simp only [List.set_cons_succ]); (try simp only [List.set_cons_zero])
      refine wpAnyH_take (i := 4) (v := ?vn49) rfl (by kernel_rfl) (by kernel_rfl) (by kernel_rfl) (fun _ _ _ h => h) (Or.inl ⟨by rfl, ?hn49⟩) hS ?rn49
      case hn49 => intro w' hSw; go_simp; (try with_reducible rfl)
      (try simp only [List.getElem_toArray]); (try simp only [List.getElem_cons_succ]); (try simp only [List.getElem_cons_zero]); (try simp only [Act.put]); (try simp only [List.setIfInBounds_toArray]); (try simp only [List.set_cons_succ]); (try simp only [List.set_cons_zero])
      refine wpAnyH_ready (rs := [5]) (by kernel_rfl) (by simp) ?_
      refine AllReadyH.cons (o := _) rfl (fun K hK => ?_) AllReadyH.nil
      rw [if_pos (by rfl)]
      go_simp
      go_at_call 40
      clear hS
      refine (KWS _ ⟨_, _, rfl, r9⟩).mono ?_
      rintro e w15 ⟨u13, rfl, hu13, k15⟩
      unfold RdIntResult at hu13
      subst hu13
      dsimp only
      replace X3 := X3.keep k15
      replace X5 := X5.keep k15
      replace X9 := X9.keep k15
      replace X12 := X12.keep k15
      replace r3 := r3.below k15
      replace r5 := r5.below k15
      replace r9 := r9.below k15
      replace B := B.trans (k15.mono B.size)
      clear k15
      have hS : (∀ o, w15.cell? ⟨b9, o, none⟩ = (#[.slice p9 ys.length c9] : Array Value)[o]?) ∧ (∀ o, w15.cell? ⟨b12, o, none⟩ = (#[.int .i64 zr.xCode, .int .i64 zr.xValue] : Array Value)[o]?) := ⟨X9.at.1, X12.at.1⟩
      refine hK.out _ _ hS (fun hS => ?_)
      clear hK K
      (try simp only [List.getElem_toArray]); (try simp only [List.getElem_cons_succ]); (try simp only [List.getElem_cons_zero]); (try simp only [Act.put]); (try simp only [List.setIfInBounds_toArray]); (try simp only [List.set_cons_succ]); (try simp only [List.set_cons_zero])
      refine wpAnyH_take (i := 6) (v := ?vn50) rfl (by kernel_rfl) (by kernel_rfl) (by kernel_rfl) (fun _ _ _ h => h) (Or.inl ⟨by rfl, ?hn50⟩) hS ?rn50
      case hn50 => intro w' hSw; go_simp; (try with_reducible rfl)
      (try simp only [List.getElem_toArray]); (try simp only [List.getElem_cons_succ]); (try simp only [List.getElem_cons_zero]); (try simp only [Act.put]); (try simp only [List.setIfInBounds_toArray]); (try simp only [List.set_cons_succ]); (try simp only [List.set_cons_zero])
      refine wpAnyH_take (i := 7) (v := ?vn51) rfl (by kernel_rfl) (by kernel_rfl) (by kernel_rfl) (fun _ _ _ h => h) (Or.inl ⟨by rfl, ?hn51⟩) hS ?rn51
      case hn51 => intro w' hSw; go_simp; (try with_reducible rfl)
      (try simp only [List.getElem_toArray]); (try simp only [List.getElem_cons_succ]); (try simp only [List.getElem_cons_zero]); (try simp only [Act.put]); (try simp only [List.setIfInBounds_toArray]); (try simp only [List.set_cons_succ]); (try simp only [List.set_cons_zero])
      refine wpAnyH_take (i := 8) (v := ?vn52) rfl (by kernel_rfl) (by kernel_rfl) (by kernel_rfl) (fun _ _ _ h => h) (Or.inl ⟨by rfl, ?hn52⟩) hS ?rn52
      case hn52 => intro w' hSw; go_simp; (try with_reducible rfl)
      (try simp only [List.getElem_toArray]); (try simp only [List.getElem_cons_succ]); (try simp only [List.getElem_cons_zero]); (try simp only [Act.put]); (try simp only [List.setIfInBounds_toArray]); (try simp only [List.set_cons_succ]); (try simp only [List.set_cons_zero])
      refine wpAnyH_take (i := 9) (v := ?vn53) rfl (by kernel_rfl) (by kernel_rfl) (by kernel_rfl) (fun _ _ _ h => h) (Or.inl ⟨by rfl, ?hn53⟩) hS ?rn53
      case hn53 => intro w' hSw; go_simp; (try with_reducible rfl)
      (try simp only [List.getElem_toArray]); (try simp only [List.getElem_cons_succ]); (try simp only [List.getElem_cons_zero]); (try simp only [Act.put]); (try simp only [List.setIfInBounds_toArray]); (try simp only [List.set_cons_succ]); (try simp only [List.set_cons_zero])
      refine wpAnyH_take (i := 10) (v := ?vn54) rfl (by kernel_rfl) (by kernel_rfl) (by kernel_rfl) (fun _ _ _ h => h) (Or.inl ⟨by rfl, ?hn54⟩) hS ?rn54
      case hn54 => intro w' hSw; go_simp; (try with_reducible rfl)
      (try simp only [List.getElem_toArray]); (try simp only [List.getElem_cons_succ]); (try simp only [List.getElem_cons_zero]); (try simp only [Act.put]); (try simp only [List.setIfInBounds_toArray]); (try simp only [List.set_cons_succ]); (try simp only [List.set_cons_zero])
      refine wpAnyH_take (i := 11) (v := ?vn55) rfl (by kernel_rfl) (by kernel_rfl) (by kernel_rfl) (fun _ _ _ h => h) (Or.inl ⟨by rfl, ?hn55⟩) hS ?rn55
      case hn55 => intro w' hSw; go_simp; (try with_reducible rfl)
      (try simp only [List.getElem_toArray]); (try simp only [List.getElem_cons_succ]); (try simp only [List.getElem_cons_zero]); (try simp only [Act.put]); (try simp only [List.setIfInBounds_toArray]); (try simp only [List.set_cons_succ]); (try simp only [List.set_cons_zero])
      refine wpAnyH_take (i := 12) (v := ?vn56) rfl (by kernel_rfl) (by kernel_rfl) (by kernel_rfl) (fun _ _ _ h => h) (Or.inl ⟨by rfl, ?hn56⟩) hS ?rn56
      case hn56 => intro w' hSw; go_simp; (try with_reducible rfl)
      (try simp only [List.getElem_toArray]); (try simp only [List.getElem_cons_succ]); (try simp only [List.getElem_cons_zero]); (try simp only [Act.put]); (try simp only [List.setIfInBounds_toArray]); (try simp only [List.set_cons_succ]); (try simp only [List.set_cons_zero])
      refine wpAnyH_take (i := 13) (v := ?vn57) rfl (by kernel_rfl) (by kernel_rfl) (by kernel_rfl) (fun _ _ _ h => h) (Or.inl ⟨by rfl, ?hn57⟩) hS ?rn57
      case hn57 => intro w' hSw; go_simp; (try with_reducible rfl)
      (try simp only [List.getElem_toArray]); (try simp only [List.getElem_cons_succ]); (try simp only [List.getElem_cons_zero]); (try simp only [Act.put]); (try simp only [List.setIfInBounds_toArray]); (try simp only [List.set_cons_succ]); (try simp only [List.set_cons_zero])
      refine wpAnyH_ready (rs := [14]) (by kernel_rfl) (by simp) ?_
      refine AllReadyH.cons (o := _) rfl (fun K hK => ?_) AllReadyH.nil
      rw [if_pos (by rfl)]
      go_simp
      go_at_call 40
      clear hS
      refine (KWS _ ⟨_, _, rfl, r9⟩).mono ?_
      rintro e w16 ⟨u13, rfl, hu13, k16⟩
      unfold RdIntResult at hu13
      subst hu13
      dsimp only
      replace X3 := X3.keep k16
      replace X5 := X5.keep k16
      replace X9 := X9.keep k16
      replace X12 := X12.keep k16
      replace r3 := r3.below k16
      replace r5 := r5.below k16
      replace r9 := r9.below k16
      replace B := B.trans (k16.mono B.size)
      clear k16
      have hS : (∀ o, w16.cell? ⟨b9, o, none⟩ = (#[.slice p9 ys.length c9] : Array Value)[o]?) ∧ (∀ o, w16.cell? ⟨b12, o, none⟩ = (#[.int .i64 zr.xCode, .int .i64 zr.xValue] : Array Value)[o]?) := ⟨X9.at.1, X12.at.1⟩
      refine hK.out _ _ hS (fun hS => ?_)
      clear hK K
      (try simp only [List.getElem_toArray]); (try simp only [List.getElem_cons_succ]); (try simp only [List.getElem_cons_zero]); (try simp only [Act.put]); (try simp only [List.setIfInBounds_toArray]); (try simp only [List.set_cons_succ]); (try simp only [List.set_cons_zero])
      refine wpAnyH_take (i := 15) (v := ?vn58) rfl (by kernel_rfl) (by kernel_rfl) (by kernel_rfl) (fun _ _ _ h => h) (Or.inl ⟨by rfl, ?hn58⟩) hS ?rn58
      case hn58 => intro w' hSw; go_simp; (try with_reducible rfl)
      (try simp only [List.getElem_toArray]); (try simp only [List.getElem_cons_succ]); (try simp only [List.getElem_cons_zero]); (try simp only [Act.put]); (try simp only [List.setIfInBounds_toArray]); (try simp only [List.set_cons_succ]); (try simp only [List.set_cons_zero])
      refine wpAnyH_take (i := 16) (v := ?vn59) rfl (by kernel_rfl) (by kernel_rfl) (by kernel_rfl) (fun _ _ _ h => h) (Or.inl ⟨by rfl, ?hn59⟩) hS ?rn59
      case hn59 => intro w' hSw; go_simp; (try with_reducible rfl)
      (try simp only [List.getElem_toArray]); (try simp only [List.getElem_cons_succ]); (try simp only [List.getElem_cons_zero]); (try simp only [Act.put]); (try simp only [List.setIfInBounds_toArray]); (try simp only [List.set_cons_succ]); (try simp only [List.set_cons_zero])
      refine wpAnyH_take (i := 17) (v := ?vn60) rfl (by kernel_rfl) (by kernel_rfl) (by kernel_rfl) (fun _ _ _ h => h) (Or.inl ⟨by rfl, ?hn60⟩) hS ?rn60
      case hn60 => intro w' hSw; go_simp; (try with_reducible rfl)
      (try simp only [List.getElem_toArray]); (try simp only [List.getElem_cons_succ]); (try simp only [List.getElem_cons_zero]); (try simp only [Act.put]); (try simp only [List.setIfInBounds_toArray]); (try simp only [List.set_cons_succ]); (try simp only [List.set_cons_zero])
      refine wpAnyH_done (by kernel_rfl) ?_ _
      clear hS
      clear X9 X12 r9 KW KWS ez0 ez1
      have X5a := X5.at.1
      have X5l := X5.lt
      by_cases hf : F.xCode = 0
      · have ef : (F.xCode != 0) = false := by simpa using hf
        obtain ⟨hx0, hpt, hf0, hf4, hword⟩ := HF.out hf
        have HFW : Hid (∀ j : Nat, j < 4 → ∀ k : Int, word F.xTape j k = if (j : Int) = party then 0 else word xs j k) := hword
        have KA := fun W (j k : Int) h => impl_WordAt (.agg #[.slice p5 F.xTape.length c5]) F.xTape j k W h
        have KB := fun W (j k : Int) h => impl_WordAt (.agg #[.slice p xs.length c]) xs j k W h
        have HA : Hid (∀ j k : Int, (0 ≤ j ∧ j ≤ 3) → 0 ≤ k → wordR F.xTape j k = ⟨0, word F.xTape j k⟩) := fun j k h1 h2 => wordR_in hf0 ⟨h1, h2⟩
        have HB : Hid (∀ j k : Int, (0 ≤ j ∧ j ≤ 3) → 0 ≤ k → wordR xs j k = ⟨0, word xs j k⟩) := fun j k h1 h2 => wordR_in hx0 ⟨h1, h2⟩
        have KT := fun W h => impl_TapeFault (.slice p5 F.xTape.length c5) F.xTape W h
        rw [hf0] at KT
        have e4 : ((F.xTape.length : Int) == 4) = true := by simp; omega
        clear hf hx0 hf0 hf4 hword HF KF KFS
        go_wp2_with fail
        clear X5a X5l
        go_loopw [13, 14, 15] (fun i _ _ wr => ∃ j : Nat, j ≤ 4 ∧ i = .int .i64 j ∧ Blk wr b3 42 #[.slice p xs.length c] ∧ Blk wr b5 46 #[.int .i64 F.xCode, .slice p5 F.xTape.length c5] ∧ ReadsM wr (.slice p xs.length c) xs ∧ ReadsM wr (.slice p5 F.xTape.length c5) F.xTape ∧ Below w.heap.size w wr) (fun i _ _ _ => 4 - (intOf i).toNat)
        case atStart => exact ⟨0, Nat.zero_le _, rfl, X3, X5, r3, r5, B⟩
        case round =>
          clear X3 X5 r3 r5 B
          obtain ⟨j, hj, rfl, X3, X5, r3, r5, B⟩ := hrel
          by_cases hlt : j < 4
          · have hi : (j : Int) < 4 := by omega
            go_wp2_with fail
            refine (lwAt_at a0 cap0 zs j 60 _ (HR0.out.below B) hl' hby (by omega) (by omega)).mono ?_
            rintro e w17 ⟨kk, rfl, hkk, k17⟩
            have hk0 := (hkk.1 (by omega)).1
            clear hkk
            replace X3 := X3.keep k17
            replace X5 := X5.keep k17
            replace r3 := r3.below k17
            replace r5 := r5.below k17
            replace B := B.trans (k17.mono B.size)
            clear k17
            have ka := KA _ (j : Int) kk ⟨_, _, rfl, r5⟩
            rw [HA.out (j : Int) kk (by omega) hk0, HFW.out j hlt kk] at ka
            have X5a := X5.at.1
            have X5l := X5.lt
            go_wp2_with fail
            clear X5a X5l
            by_cases hjp : (j : Int) = party
            · have e1 : ((j : Int) == party) = true := by simpa using hjp
              have e2 : ((j : Int) != party) = false := by simpa using hjp
              rw [if_pos hjp] at ka
              clear hjp
              refine (ka).mono ?_
              rintro e w18 ⟨uv, rfl, huv, k18⟩
              unfold RdIntResult at huv
              subst huv
              dsimp only
              replace X3 := X3.keep k18
              replace X5 := X5.keep k18
              replace r3 := r3.below k18
              replace r5 := r5.below k18
              replace B := B.trans (k18.mono B.size)
              clear k18
              go_wp2
              go_roundw
              case rel => exact ⟨j + 1, by omega, by go_num, X3, X5, r3, r5, B⟩
              case measure => simp [intOf]; omega
            · have e1 : ((j : Int) == party) = false := by simpa using hjp
              have e2 : ((j : Int) != party) = true := by simpa using hjp
              rw [if_neg hjp] at ka
              clear hjp
              refine (ka).mono ?_
              rintro e w19 ⟨uv, rfl, huv, k19⟩
              unfold RdIntResult at huv
              subst huv
              dsimp only
              replace X3 := X3.keep k19
              replace X5 := X5.keep k19
              replace r3 := r3.below k19
              replace r5 := r5.below k19
              replace B := B.trans (k19.mono B.size)
              clear k19
              have kb := KB w19 (j : Int) kk ⟨_, _, rfl, r3⟩
              rw [HB.out (j : Int) kk (by omega) hk0] at kb
              generalize word xs (j : Int) kk = wv at *
              have e3 : (wv != wv) = false := by simp
              have X3a := X3.at.1
              have X3l := X3.lt
              go_wp2_with fail
              clear X3a X3l
              refine (kb).mono ?_
              rintro e w20 ⟨uv, rfl, huv, k20⟩
              unfold RdIntResult at huv
              subst huv
              dsimp only
              replace X3 := X3.keep k20
              replace X5 := X5.keep k20
              replace r3 := r3.below k20
              replace r5 := r5.below k20
              replace B := B.trans (k20.mono B.size)
              clear k20
              go_wp2
              go_roundw
              case rel => exact ⟨j + 1, by omega, by go_num, X3, X5, r3, r5, B⟩
              case measure => simp [intOf]; omega
          · obtain rfl : j = 4 := by omega
            have X5a := X5.at.1
            have X5l := X5.lt
            go_wp2_with fail
            clear X5a X5l
            refine (KT _ r5).mono ?_
            rintro e w21 ⟨rfl, k21⟩
            replace X3 := X3.keep k21
            replace X5 := X5.keep k21
            replace r3 := r3.below k21
            replace r5 := r5.below k21
            replace B := B.trans (k21.mono B.size)
            clear k21
            have X5a := X5.at.1
            have X5l := X5.lt
            go_wp2
            go_ret
            exact ⟨rfl, B⟩
      · have ef : (F.xCode != 0) = true := by simpa using hf
        have eq : (F.xCode == F.xCode) = true := by simp
        clear hf HF KF
        go_wp2_with fail
        clear X5a X5l
        refine wp_region_held (S := fun V => (∀ o, V.cell? ⟨b3, o, none⟩ = (#[.slice p xs.length c] : Array Value)[o]?) ∧ (∀ o, V.cell? ⟨b5, o, none⟩ = (#[.int .i64 F.xCode, .slice p5 F.xTape.length c5] : Array Value)[o]?)) (by kernel_rfl) ?_
        try (change wpAnyH _ _ _ _ _ _ _ _ (World.drew _))
        replace X3 := X3.drew
        replace X5 := X5.drew
        replace r3 := r3.below (Below.refl _ _).drew
        replace r5 := r5.below (Below.refl _ _).drew
        replace B := B.drew
        have hS : (∀ o, w16.drew.cell? ⟨b3, o, none⟩ = (#[.slice p xs.length c] : Array Value)[o]?) ∧ (∀ o, w16.drew.cell? ⟨b5, o, none⟩ = (#[.int .i64 F.xCode, .slice p5 F.xTape.length c5] : Array Value)[o]?) := ⟨X3.at.1, X5.at.1⟩
        refine wpAnyH_take (i := 0) (v := ?vn61) rfl (by kernel_rfl) (by kernel_rfl) (by kernel_rfl) (fun _ _ _ h => h) (Or.inl ⟨by rfl, ?hn61⟩) hS ?rn61
        case hn61 => intro w' hSw; go_simp; (try with_reducible rfl)
        (try simp only [List.getElem_toArray]); (try simp only [List.getElem_cons_succ]); (try simp only [List.getElem_cons_zero]); (try simp only [Act.put]); (try simp only [List.setIfInBounds_toArray]); (try simp only [List.set_cons_succ]); (try simp only [List.set_cons_zero])
        refine wpAnyH_take (i := 1) (v := ?vn62) rfl (by kernel_rfl) (by kernel_rfl) (by kernel_rfl) (fun _ _ _ h => h) (Or.inl ⟨by rfl, ?hn62⟩) hS ?rn62
        case hn62 => intro w' hSw; go_simp; (try with_reducible rfl)
        (try simp only [List.getElem_toArray]); (try simp only [List.getElem_cons_succ]); (try simp only [List.getElem_cons_zero]); (try simp only [Act.put]); (try simp only [List.setIfInBounds_toArray]); (try simp only [List.set_cons_succ]); (try simp only [List.set_cons_zero])
        refine wpAnyH_take (i := 4) (v := ?vn63) rfl (by kernel_rfl) (by kernel_rfl) (by kernel_rfl) (fun _ _ _ h => h) (Or.inl ⟨by rfl, ?hn63⟩) hS ?rn63
        case hn63 => intro w' hSw; go_simp; (try with_reducible rfl)
        (try simp only [List.getElem_toArray]); (try simp only [List.getElem_cons_succ]); (try simp only [List.getElem_cons_zero]); (try simp only [Act.put]); (try simp only [List.setIfInBounds_toArray]); (try simp only [List.set_cons_succ]); (try simp only [List.set_cons_zero])
        refine wpAnyH_take (i := 5) (v := ?vn64) rfl (by kernel_rfl) (by kernel_rfl) (by kernel_rfl) (fun _ _ _ h => h) (Or.inl ⟨by rfl, ?hn64⟩) hS ?rn64
        case hn64 => intro w' hSw; go_simp; (try with_reducible rfl)
        (try simp only [List.getElem_toArray]); (try simp only [List.getElem_cons_succ]); (try simp only [List.getElem_cons_zero]); (try simp only [Act.put]); (try simp only [List.setIfInBounds_toArray]); (try simp only [List.set_cons_succ]); (try simp only [List.set_cons_zero])
        refine wpAnyH_ready (rs := [2]) (by kernel_rfl) (by simp) ?_
        refine AllReadyH.cons (o := _) rfl (fun K hK => ?_) AllReadyH.nil
        rw [if_pos (by rfl)]
        go_simp
        go_at_call 41
        clear hS
        refine (KFS _ ⟨_, _, rfl, r3⟩).mono ?_
        rintro e w22 ⟨ut, bt, rfl, ⟨pt, ct, rfl, Mt⟩, -, k22⟩
        clear Mt
        replace X3 := X3.keep k22
        replace X5 := X5.keep k22
        replace r3 := r3.below k22
        replace r5 := r5.below k22
        replace B := B.trans (k22.mono B.size)
        clear k22
        have hS : (∀ o, w22.cell? ⟨b3, o, none⟩ = (#[.slice p xs.length c] : Array Value)[o]?) ∧ (∀ o, w22.cell? ⟨b5, o, none⟩ = (#[.int .i64 F.xCode, .slice p5 F.xTape.length c5] : Array Value)[o]?) := ⟨X3.at.1, X5.at.1⟩
        refine hK.out _ _ hS (fun hS => ?_)
        clear hK K
        (try simp only [List.getElem_toArray]); (try simp only [List.getElem_cons_succ]); (try simp only [List.getElem_cons_zero]); (try simp only [Act.put]); (try simp only [List.setIfInBounds_toArray]); (try simp only [List.set_cons_succ]); (try simp only [List.set_cons_zero])
        refine wpAnyH_take (i := 3) (v := ?vn65) rfl (by kernel_rfl) (by kernel_rfl) (by kernel_rfl) (fun _ _ _ h => h) (Or.inl ⟨by rfl, ?hn65⟩) hS ?rn65
        case hn65 => intro w' hSw; go_simp; (try with_reducible rfl)
        (try simp only [List.getElem_toArray]); (try simp only [List.getElem_cons_succ]); (try simp only [List.getElem_cons_zero]); (try simp only [Act.put]); (try simp only [List.setIfInBounds_toArray]); (try simp only [List.set_cons_succ]); (try simp only [List.set_cons_zero])
        refine wpAnyH_take (i := 6) (v := ?vn66) rfl (by kernel_rfl) (by kernel_rfl) (by kernel_rfl) (fun _ _ _ h => h) (Or.inl ⟨by rfl, ?hn66⟩) hS ?rn66
        case hn66 => intro w' hSw; go_simp; (try with_reducible rfl)
        (try simp only [List.getElem_toArray]); (try simp only [List.getElem_cons_succ]); (try simp only [List.getElem_cons_zero]); (try simp only [Act.put]); (try simp only [List.setIfInBounds_toArray]); (try simp only [List.set_cons_succ]); (try simp only [List.set_cons_zero])
        refine wpAnyH_take (i := 7) (v := ?vn67) rfl (by kernel_rfl) (by kernel_rfl) (by kernel_rfl) (fun _ _ _ h => h) (Or.inl ⟨by rfl, ?hn67⟩) hS ?rn67
        case hn67 => intro w' hSw; go_simp; (try with_reducible rfl)
        (try simp only [List.getElem_toArray]); (try simp only [List.getElem_cons_succ]); (try simp only [List.getElem_cons_zero]); (try simp only [Act.put]); (try simp only [List.setIfInBounds_toArray]); (try simp only [List.set_cons_succ]); (try simp only [List.set_cons_zero])
        refine wpAnyH_done (by kernel_rfl) ?_ _
        clear hS
        go_wp2
        go_ret
        exact ⟨rfl, B⟩

/-! the row's step -/
set_option maxRecDepth 100000 in
theorem lifted (os : Os) (started : os.Started) (H : Type) (enc : TypeId × Value → H) :
    ReturnsInHanded {} Try.checked os 6 .any (Rows.fnTapesSpec.pre6 enc Try.prog Try.f6 Rows.fnTapesRow.domain false) (Rows.fnTapesSpec.post enc Try.prog Try.f6 false true false false) := by
  refine returnsInHanded_of_change (C := Try.checked) own started (by kernel_rfl) Try.func6
    (ChangeSpec.witness6 (enc := enc) (C := Try.checked) false ⟨#[], #[.slice none 0 0], []⟩ 8 (by kernel_rfl) (by kernel_rfl) (by kernel_rfl) (by kernel_rfl)) ?_
  intro W base args ds gs before hval0 hW hcnd _
  have hval : ∀ (j : Nat) t v, Try.f6.params[j]? = some t → args[j]? = some v → Value.okWide Try.prog W .any base t v := hval0
  have hW' := hW
  obtain ⟨p, q, hA0, hV, rfl, hfz, hnd⟩ := hW
  have hA : DataW.TrodAll enc Try.prog W 0 (fun _ => true) true Try.f6.params.toList args.toList ds p := hA0
  rw [Try.params6] at hA hval
  obtain ⟨v0, vs0, d0, ds0, p0, q0, hargs, rfl, rfl, h0, r0⟩ := trodAll_cons hA
  obtain ⟨rfl, rfl, rfl⟩ := trodAll_nil r0
  obtain rfl : args = #[v0] := by cases args; simp_all
  obtain ⟨rfl, rfl⟩ := trodVars_none hV
  obtain ⟨a0, len0, cap0, rfl⟩ := okWide_slice Try.underlying22 (hval 0 22 v0 rfl rfl)
  have k0 := h0
  have lt0 : ∀ x ∈ p0, x.block < W.heap.size := by obtain ⟨m, hm⟩ := k0; exact DataW.trod_lt m _ _ _ hm
  obtain ⟨z0, w0⟩ : ∃ zs, IsRow .u8 W a0 len0 cap0 zs := by
    obtain ⟨fuel, hf⟩ := h0
    rcases open_ints Try.underlying22 Try.underlying5 (by kernel_rfl) hf with ⟨hcs, _⟩ | ⟨x, l, c, zs, hcs, _, hl, hm, hz, _, hcell, hwz⟩
    · simp [Value.cells] at hcs
      obtain ⟨rfl, rfl, rfl⟩ := hcs
      exact ⟨[], .inl ⟨rfl, rfl, rfl, rfl⟩⟩
    · simp [Value.cells] at hcs
      obtain ⟨rfl, rfl, rfl⟩ := hcs
      exact ⟨zs, .inr ⟨_, rfl, hl, hm, by simpa using hz, hcell, hwz⟩⟩
  clear hA0 hval0
  refine (walk a0 len0 cap0 z0 W w0).mono fun e W' ⟨he, bel⟩ => ?_
  subst he
  exact ⟨_, rfl, _, _, _, [], _, [], hW', trodAll_mk1 (shut_bool Try.underlying4 _), (trodAll_cons_mk (Below.trod laidOut (by kernel_rfl) (of_decide_eq_true (by kernel_rfl)) k0 bel lt0) trodAll_mk0), rfl, bel.frame _, fun h => by cases h⟩

theorem over : Rows.fnTapesRow.holds Try.pinned (OpenSpec.ofChange Rows.fnTapesSpec) :=
  OpenClaim.holds_of_wide 6 Try.f6 rfl rfl rfl rfl rfl rfl rfl ⟨rfl, rfl, rfl, rfl, rfl⟩ rfl rfl rfl rfl rfl (by kernel_rfl) Try.func6 (by kernel_rfl)
    (of_decide_eq_true (by kernel_rfl)) (by unfold Func.isWrapper; first | (rw [if_pos (by decide +kernel)]; kernel_rfl) | (rw [if_neg (by decide +kernel)]; exact ⟨rfl, rfl⟩))
    (fun os started H enc _ => lifted os started H enc)

end Go.Proofs.Ytadppilldijijaa.fnTapes
namespace Go.Proofs.Ytadppilldijijaa
theorem fnTapes_holds : Rows.FnTapesSaid := fnTapes.over
#print axioms fnTapes_holds
end Go.Proofs.Ytadppilldijijaa
