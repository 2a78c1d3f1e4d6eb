/-
  Contracts of what the laws draw for chapter 3: parts, and what a mirror is asked of.
-/
import Derived.Test.YtepobckhfodngaaSrc
import Derived.Test.YtepobckhfodngaaApp
import Derived.Test.YtepobckhfodngaaMirS
namespace Go.Proofs.Ytepobckhfodngaa
open Go.ChangeShapes Go.WideShapes Go.ChangeAt Go.RowKit
set_option linter.unusedVariables false

theorem spec_l3Q (b : Nat) (a : Option Addr) (cap : Nat) (zs : List Int) (k : Nat) (w : World) (hs : Src w b a cap zs k) (hk : k ≤ 1073741824) :
    Calls Try.prog 95 #[.pointer (some ⟨b, 0, none⟩)] w fun e w' => ∃ q : Int, e = .returned (.int .i64 q) ∧ isQ q ∧ Src w' b a cap zs (k + 1) ∧ Off [b] w w' := by
  have hl := hs.blk.lt
  go_enter Try.func95, Try.ntmps95
  go_wp2_with fail
  refine (spec_l1Pick b a cap zs k _ [256, 256, 2] [w.heap.size] _ (hs.alloc _) hk (Ints.lit w _ _ 3 rfl rfl (by omega)) (by simp) (by simp) (by simp; omega)).mono ?_
  rintro e w2 ⟨q, rfl, hq, s2, o2⟩
  have HQ : Hid (isQ q) := by simp at hq; show isQ q; unfold isQ; omega
  clear hq
  go_wp2
  go_ret
  exact ⟨q, rfl, HQ.out, s2, ((Off.refl _ _).alloc _).trans o2⟩
set_option maxHeartbeats 2000000 in
theorem spec_l3Parts (b : Nat) (a : Option Addr) (cap : Nat) (zs : List Int) (k : Nat) (q : Int) (w : World) (hs : Src w b a cap zs k) (hk : k ≤ 1000000000) (hq : q ≤ 256) :
    Calls Try.prog 96 #[.pointer (some ⟨b, 0, none⟩), .int .i64 q] w fun e w' => ∃ v xs bs, e = .returned v ∧ IntsT w' v xs bs ∧ xs.length = 4 ∧ (∀ y ∈ bs, w.heap.size ≤ y) ∧ Src w' b a cap zs (k + 4) ∧ Off [b] w w' := by
  obtain ⟨i1, gi, gz0, gz1, gz2⟩ := info_parts Try.infoI
  have I0 : IntsT (w.alloc (.cells #[] 2)) (.slice (some ⟨w.heap.size, 0, none⟩) 0 0) [] [w.heap.size] := Own.made w 2 1 #[] 0 (by omega) rfl
  have S0 := hs.alloc (.cells #[] 2)
  have O0 : Off [b] w (w.alloc (.cells #[] 2)) := (Off.refl _ _).alloc _
  have hbl := hs.blk.lt
  clear hs
  go_enter Try.func96, Try.ntmps96
  go_wp2
  go_loopw [5, 6] (fun o i wr => ∃ n : Nat, ∃ xs : List Int, ∃ bs : List Nat, n ≤ 4 ∧ i = .int .i64 n ∧ xs.length = n ∧ IntsT wr o xs bs ∧ (∀ y ∈ bs, w.heap.size ≤ y) ∧ Src wr b a cap zs (k + n) ∧ Off [b] w wr) (fun _ i _ => 4 - (intOf i).toNat)
  case atStart => exact ⟨0, [], _, Nat.zero_le _, rfl, rfl, I0, by simp, S0, O0⟩
  case round =>
    clear I0 S0 O0
    obtain ⟨n, xs, bs, hn, rfl, hxl, hI, hbs, hS, hO⟩ := hrel
    obtain ⟨po, co, rfl⟩ := Own.value hI
    by_cases hlt : n < 4
    · have hi : (n : Int) < 4 := by omega
      have HL : Hid (xs.length = n) := hxl
      go_wp2_with fail
      refine (spec_l1Next b a cap zs (k + n) q _ hS (by omega) (by omega)).mono ?_
      rintro e w1 ⟨r, rfl, hr, hS1, hO1⟩
      have hI1 : Own w1 2 1 (.slice po xs.length co) xs.length (xs.map (Value.int .i64)) bs := Own.off hI hO1 (fun y hy hm => by have := hbs y hy; simp at hm; omega)
      have hO2 := hO.trans hO1
      have lt1 := Own.lt hI1
      have hz := hO2.size
      rw [hxl] at hI1 ⊢
      clear hI hS hO hO1 hxl hr
      go_wp2_with (at_builtin; refine wpList_append_Own rfl _ _ 33 rfl 2 i1 (.int .i64 0) 1 8 Try.underlying33 gi gz0 gz1 gz2 rfl (by decide) _ _ _ bs rfl (Own.alloc hI1 _) ⟨w1.heap.size, 0, none⟩ 1 1 [.int .i64 r] rfl rfl ?c1 ?c2 ?c3 ?c4 ?c5 ?_)
      case c1 => exact one_new (Blk.new _ _ _)
      case c2 => intro u hu; simp at hu; subst hu; rfl
      case c3 => omega
      case c4 => unfold maxLen; omega
      case c5 => omega
      intro g c w3 hO3 hoff hg3
      have hI3 : IntsT w3 (.slice (some ⟨g, 0, none⟩) (n + 1) c) (xs ++ [r]) [g] := by
        unfold IntsT
        rw [List.map_append, List.length_append, HL.out]
        exact hO3
      have hb3 : ∀ y ∈ [g], w.heap.size ≤ y := by
        intro y hy
        simp at hy
        subst hy
        rcases hg3 with h | h
        · exact hbs y (by rw [h]; simp)
        · (try simp at h); omega
      have hS3 : Src w3 b a cap zs (k + (n + 1)) := (hS1.alloc (.cells #[.int .i64 r] 2)).off hoff (fun y hy => by have := hbs y hy; omega)
      have hO4 : Off [b] w w3 := (hO2.alloc (.cells #[.int .i64 r] 2)).fresh hoff hbs
      clear hO3 hoff hI1 hS1 hO2 lt1
      go_wp2
      go_roundw
      case rel => exact ⟨n + 1, xs ++ [r], [g], by omega, by go_num, by simp [HL.out], hI3, hb3, hS3, hO4⟩
      case measure => simp [intOf]; omega
    · obtain rfl : n = 4 := by omega
      go_wp2
      go_ret
      exact ⟨_, xs, bs, rfl, hI, hxl, hbs, hS, hO⟩
theorem reads_drop1 {w : World} {te : TypeId} {g c : Nat} {xs : List Int} (h : Own w te 1 (.slice (some ⟨g, 0, none⟩) 4 c) 4 (xs.map (Value.int .i64)) [g]) (h4 : xs.length = 4) : Reads w .i64 (.slice (some ⟨g, 1, none⟩) 3 (c - 1)) (xs.drop 1) := by
  refine ⟨_, c - 1, by simp [h4], by simp [maxLen, h4], fun _ => ⟨g, 1, rfl, Own.lt h g (by simp), fun i hi => ?_⟩⟩
  have hi' : i + 1 < xs.length := by simp at hi; omega
  rw [Own.cell h (1 + i) (by omega), Nat.add_comm 1 i]
  simp [hi']
set_option maxHeartbeats 2000000 in
theorem spec_DrawMirrorOf (a : Option Addr) (cap : Nat) (zs : List Int) (w : World) (hr : Reads w .u8 (.slice a zs.length cap) zs) (hl : zs.length ≤ 1048576) (hb : ∀ i, 0 ≤ zs.getD i 0 ∧ zs.getD i 0 ≤ 255) :
    Calls Try.prog 42 #[.slice a zs.length cap] w fun e w' => ∃ (q : Int) (p : Option Addr) (n c : Nat) (xs : List Int), e = .returned (.tuple #[.int .i64 q, .slice p n c]) ∧ Reads w' .i64 (.slice p n c) xs ∧ Below w.heap.size w w' := by
  go_enter Try.func42, Try.ntmps42
  go_wp2_with fail
  refine (spec_l1Source a cap zs w hr hl hb).mono ?_
  rintro e w1 ⟨rfl, s1, hb1⟩
  go_wp2_with fail
  refine (spec_l3Q w.heap.size a cap zs _ _ s1 (by omega)).mono ?_
  rintro e w2 ⟨q, rfl, hq, s2, o2⟩
  have HQ : Hid (isQ q) := hq
  clear hq
  go_wp2_with fail
  refine (spec_l3Parts w.heap.size a cap zs _ q _ s2 (by omega) (by rcases HQ.out with h | h <;> omega)).mono ?_
  rintro e w3 ⟨v, xs, bs, rfl, i3, hl4, hf3, s3, o3⟩
  obtain ⟨g, c, rfl, rfl, hc1, hc2⟩ := Own.shape i3 (by rw [hl4]; omega)
  unfold IntsT at i3
  have HL : Hid (xs.length = 4) := hl4
  rw [hl4] at i3 hc1 ⊢
  clear hl4
  have hg : w2.heap.size ≤ g := hf3 g (by simp)
  have z2 := s2.blk.lt
  go_wp2_with fail
  refine (spec_l1Next w.heap.size a cap zs _ _ _ s3 (by omega) (by omega)).mono ?_
  rintro e w4 ⟨r4, rfl, hr4, s4, o4⟩
  have i4 := Own.off i3 o4 (by simp; omega)
  have q4 : Below w.heap.size w w4 := hb1.trans ((o2.trans (o3.trans o4)).toBelow hb1.size (by simp))
  have hR4 : Reads w4 .i64 (.slice (some ⟨g, 0, none⟩) 4 c) xs := Own.reads (by rw [HL.out]; exact i4)
  by_cases h0 : r4 = 0
  · have e0 : (r4 == 0) = true := by simpa using h0
    clear h0 hr4
    go_wp2
    go_ret2
    exact ⟨_, _, _, _, xs, rfl, hR4, q4⟩
  · have e0 : (r4 == 0) = false := by simpa using h0
    by_cases h1 : r4 = 1
    · have e1 : (r4 == 1) = true := by simpa using h1
      have hD := reads_drop1 i4 HL.out
      clear h0 h1 hr4
      go_wp2
      go_ret2
      exact ⟨_, _, _, _, _, rfl, hD, q4⟩
    · have e1 : (r4 == 1) = false := by simpa using h1
      by_cases h2 : r4 = 2
      · have e2 : (r4 == 2) = true := by simpa using h2
        clear h0 h1 h2 hr4
        have z4 := s4.blk.lt
        have lg := Own.lt i4 g (by simp)
        go_wp2_with fail
        refine (spec_l1Pick w.heap.size a cap zs _ _ [256, -1] [w4.heap.size] _ (s4.alloc _) (by omega) (Ints.lit w4 _ _ 2 rfl rfl (by omega)) (by simp) (by simp) (by simp; omega)).mono ?_
        rintro e w6 ⟨r6, rfl, hm6, s6, o6⟩
        have i6 := Own.off (Own.alloc i4 _) o6 (by simp; omega)
        have c1 : ∃ u, w6.cell? ⟨g, 0, none⟩ = some u := ⟨_, (Own.cell i6 0 (by omega)).trans (List.getElem?_eq_getElem (by simp [HL.out]))⟩
        obtain ⟨u, c1⟩ := c1
        have f1 : w6.frozen? ⟨g, 0, none⟩ = false := Own.frozen i6 0
        have i7 := Own.set i6 0 (.int .i64 r6)
        rw [← List.map_set] at i7
        have hR7 := Own.reads (xs := xs.set 0 r6) (by rw [List.length_set, HL.out]; exact i7)
        have q6 : Below w.heap.size w w6 := q4.trans ((((Off.refl _ _).alloc _).trans o6).toBelow q4.size (by simp))
        have q4s := hb1.size
        clear i7 i6 hR4 i4
        go_wp2
        go_ret2
        exact ⟨_, _, _, _, _, rfl, hR7, q6.setCell (by simp; omega) _⟩
      · have e2 : (r4 == 2) = false := by simpa using h2
        clear h0 h1 h2 hr4
        go_wp2
        go_ret2
        exact ⟨_, _, _, _, xs, rfl, hR4, q4⟩
end Go.Proofs.Ytepobckhfodngaa
