/-
  Contracts of what the laws draw for chapter 3: parts, and what a mirror is asked of.
-/
import Derived.Test.YtepobckhfodngabGreatSrc
import Derived.Test.YtepobckhfodngabGreatApp
import Derived.Test.YtepobckhfodngabGreatMirS
namespace Go.Proofs.YtepobckhfodngabGreat
open Go.ChangeShapes Go.WideShapes Go.ChangeAt Go.RowKit
set_option linter.unusedVariables false

theorem spec_l3Q (b : Nat) (a : Option Addr) (cap : Nat) (zs : List Int) (k : Nat) (w : World) (hs : Src w b a cap zs k) (hk : k ≤ 1073741824) :
    Calls Tryz.prog 28 #[.pointer (some ⟨b, 0, none⟩)] w fun e w' => ∃ q : Int, e = .returned (.int .i64 q) ∧ isQ q ∧ Src w' b a cap zs (k + 1) ∧ Off [b] w w' := by
  have hl := hs.blk.lt
  go_enter Tryz.func28, Tryz.ntmps28
  go_wp2_with fail
  refine (spec_l1Pick b a cap zs k _ [256, 256, 2] [w.heap.size] _ (hs.alloc _) hk (Ints.lit w _ _ 3 rfl rfl (by omega)) (by simp) (by simp) (by simp; omega)).mono ?_
  rintro e w2 ⟨q, rfl, hq, s2, o2⟩
  have HQ : Hid (isQ q) := by simp at hq; show isQ q; unfold isQ; omega
  clear hq
  go_wp2
  go_ret
  exact ⟨q, rfl, HQ.out, s2, ((Off.refl _ _).alloc _).trans o2⟩
set_option maxHeartbeats 2000000 in
theorem spec_l3Parts (b : Nat) (a : Option Addr) (cap : Nat) (zs : List Int) (k : Nat) (q : Int) (w : World) (hs : Src w b a cap zs k) (hk : k ≤ 1000000000) (hq : q ≤ 256) :
    Calls Tryz.prog 55 #[.pointer (some ⟨b, 0, none⟩), .int .i64 q] w fun e w' => ∃ v xs bs, e = .returned v ∧ IntsT w' v xs bs ∧ xs.length = 4 ∧ (∀ y ∈ bs, w.heap.size ≤ y) ∧ Src w' b a cap zs (k + 4) ∧ Off [b] w w' := by
  obtain ⟨i1, gi, gz0, gz1, gz2⟩ := info_parts Tryz.infoI
  have I0 : IntsT (w.alloc (.cells #[] 2)) (.slice (some ⟨w.heap.size, 0, none⟩) 0 0) [] [w.heap.size] := Own.made w 2 1 #[] 0 (by omega) rfl
  have S0 := hs.alloc (.cells #[] 2)
  have O0 : Off [b] w (w.alloc (.cells #[] 2)) := (Off.refl _ _).alloc _
  have hbl := hs.blk.lt
  clear hs
  go_enter Tryz.func55, Tryz.ntmps55
  go_wp2
  go_loopw [5, 6] (fun o i wr => ∃ n : Nat, ∃ xs : List Int, ∃ bs : List Nat, n ≤ 4 ∧ i = .int .i64 n ∧ xs.length = n ∧ IntsT wr o xs bs ∧ (∀ y ∈ bs, w.heap.size ≤ y) ∧ Src wr b a cap zs (k + n) ∧ Off [b] w wr) (fun _ i _ => 4 - (intOf i).toNat)
  case atStart => exact ⟨0, [], _, Nat.zero_le _, rfl, rfl, I0, by simp, S0, O0⟩
  case round =>
    clear I0 S0 O0
    obtain ⟨n, xs, bs, hn, rfl, hxl, hI, hbs, hS, hO⟩ := hrel
    obtain ⟨po, co, rfl⟩ := Own.value hI
    by_cases hlt : n < 4
    · have hi : (n : Int) < 4 := by omega
      have HL : Hid (xs.length = n) := hxl
      go_wp2_with fail
      refine (spec_l1Next b a cap zs (k + n) q _ hS (by omega) (by omega)).mono ?_
      rintro e w1 ⟨r, rfl, hr, hS1, hO1⟩
      have hI1 : Own w1 2 1 (.slice po xs.length co) xs.length (xs.map (Value.int .i64)) bs := Own.off hI hO1 (fun y hy hm => by have := hbs y hy; simp at hm; omega)
      have hO2 := hO.trans hO1
      have lt1 := Own.lt hI1
      have hz := hO2.size
      rw [hxl] at hI1 ⊢
      clear hI hS hO hO1 hxl hr
      go_wp2_with (at_builtin; refine wpList_append_Own rfl _ _ 27 rfl 2 i1 (.int .i64 0) 1 8 Tryz.underlying27 gi gz0 gz1 gz2 rfl (by decide) _ _ _ bs rfl (Own.alloc hI1 _) ⟨w1.heap.size, 0, none⟩ 1 1 [.int .i64 r] rfl rfl ?c1 ?c2 ?c3 ?c4 ?c5 ?_)
      case c1 => exact one_new (Blk.new _ _ _)
      case c2 => intro u hu; simp at hu; subst hu; rfl
      case c3 => omega
      case c4 => unfold maxLen; omega
      case c5 => omega
      intro g c w3 hO3 hoff hg3
      have hI3 : IntsT w3 (.slice (some ⟨g, 0, none⟩) (n + 1) c) (xs ++ [r]) [g] := by
        unfold IntsT
        rw [List.map_append, List.length_append, HL.out]
        exact hO3
      have hb3 : ∀ y ∈ [g], w.heap.size ≤ y := by
        intro y hy
        simp at hy
        subst hy
        rcases hg3 with h | h
        · exact hbs y (by rw [h]; simp)
        · (try simp at h); omega
      have hS3 : Src w3 b a cap zs (k + (n + 1)) := (hS1.alloc (.cells #[.int .i64 r] 2)).off hoff (fun y hy => by have := hbs y hy; omega)
      have hO4 : Off [b] w w3 := (hO2.alloc (.cells #[.int .i64 r] 2)).fresh hoff hbs
      clear hO3 hoff hI1 hS1 hO2 lt1
      go_wp2
      go_roundw
      case rel => exact ⟨n + 1, xs ++ [r], [g], by omega, by go_num, by simp [HL.out], hI3, hb3, hS3, hO4⟩
      case measure => simp [intOf]; omega
    · obtain rfl : n = 4 := by omega
      go_wp2
      go_ret
      exact ⟨_, xs, bs, rfl, hI, hxl, hbs, hS, hO⟩
end Go.Proofs.YtepobckhfodngabGreat
