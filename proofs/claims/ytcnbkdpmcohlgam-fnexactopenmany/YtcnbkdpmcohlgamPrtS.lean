/-
  Contracts of chapter 6's model: parts that are told.
-/
import Derived.Test.YtcnbkdpmcohlgamPrt2
import Derived.Test.YtcnbkdpmcohlgamAgrS
import Derived.Deep.RegionHeld3
namespace Go.Proofs.Ytcnbkdpmcohlgam
open Go.ChangeShapes Go.WideShapes Go.ChangeAt Go.RowKit
set_option linter.unusedVariables false
theorem spec_l6Liar (who by' : Int) (w : World) : Calls Try.prog 35 #[.int .i64 who, .int .i64 by'] w fun e w' => e = .returned (.bool (isLieB who by')) ∧ w = w' := by
  have K := fun V => spec_l3But who V
  unfold isLieB
  by_cases h1 : isBut who = true
  · rw [h1] at K ⊢
    clear h1
    by_cases h2 : 0 ≤ by' ∧ by' ≤ 255
    · rw [show (true && decide (0 ≤ by' ∧ by' ≤ 255)) = true by simp [h2]]
      go_enter Try.func35, Try.ntmps35
      go_wp2_with fail
      refine (K _).mono ?_
      rintro e w' ⟨rfl, rfl⟩
      go_wp2_with fail
      refine (spec_l1In_yes _ _ _ _ h2.1 h2.2).mono ?_
      rintro e w' ⟨rfl, rfl⟩
      go_wp2
      go_ret
      exact ⟨rfl, rfl⟩
    · rw [show (true && decide (0 ≤ by' ∧ by' ≤ 255)) = false by simp; omega]
      go_enter Try.func35, Try.ntmps35
      go_wp2_with fail
      refine (K _).mono ?_
      rintro e w' ⟨rfl, rfl⟩
      go_wp2_with fail
      refine (spec_l1In_no _ _ _ _ (by omega)).mono ?_
      rintro e w' ⟨rfl, rfl⟩
      go_wp2
      go_ret
      exact ⟨rfl, rfl⟩
  · simp only [Bool.not_eq_true] at h1
    rw [h1] at K ⊢
    rw [Bool.false_and]
    clear h1
    go_enter Try.func35, Try.ntmps35
    go_wp2_with fail
    refine (K _).mono ?_
    rintro e w' ⟨rfl, rfl⟩
    go_wp2
    go_ret
    exact ⟨rfl, rfl⟩
theorem lieF_yes {f : Nat → Int} {q who by' : Int} {n : Nat} (h : (n : Int) = who) : lieF f q who by' n = (f n + by') % q := if_pos h
theorem lieF_no {f : Nat → Int} {q who by' : Int} {n : Nat} (h : ¬ (n : Int) = who) : lieF f q who by' n = f n := if_neg h
theorem major_tuple (a b c : Int) : decide (a = b ∨ a = c ∨ b = c) = decide ((major [a, b, c]).1 = 0) ∧ ((major [a, b, c]).1 = 0 → (if a = b ∨ a = c then a else b) = (major [a, b, c]).2) := by
  by_cases h1 : a = b ∨ a = c
  · have : major [a, b, c] = (0, a) := by simp only [major]; rw [if_pos h1]
    rw [this]
    exact ⟨by rw [decide_eq_decide]; constructor <;> intro _ <;> first | rfl | omega, fun _ => by rw [if_pos h1]⟩
  · by_cases h2 : b = c
    · have : major [a, b, c] = (0, b) := by simp only [major]; rw [if_neg h1, if_pos h2]
      rw [this]
      exact ⟨by rw [decide_eq_decide]; constructor <;> intro _ <;> first | rfl | omega, fun _ => by rw [if_neg h1]⟩
    · have : major [a, b, c] = (4, 0) := by simp only [major]; rw [if_neg h1, if_neg h2]
      rw [this]
      exact ⟨by rw [decide_eq_decide]; constructor <;> intro h <;> omega, fun h => by simp at h⟩
set_option maxHeartbeats 4000000 in
theorem spec_l6Part (b : Nat) (q : Int) (v : Value) (xss : List (List Int)) (part : Nat) (who by' : Int) (w : World) (hb : Blk w b 30 #[.int .i64 q, v]) (hv : ReadsM w v xss) (hc : mirC q xss = 0) (hp : part < 4) (hby : 0 ≤ by' ∧ by' ≤ 255) :
    Calls Try.prog 36 #[.pointer (some ⟨b, 0, none⟩), .int .i64 part, .int .i64 who, .int .i64 by'] w fun e w' => ∃ x, e = .returned (.tuple #[.int .i64 x, .bool (decide ((partM q xss part who by').1 = 0))]) ∧ ((partM q xss part who by').1 = 0 → x = (partM q xss part who by').2) ∧ Below w.heap.size w w' := by
  obtain ⟨hq, h4, hr, hx, -⟩ := mirC_zero hc
  obtain ⟨i1, gi, gz0, gz1, gz2⟩ := info_parts Try.infoI
  obtain ⟨p, c, rfl, hm, hA⟩ := hv
  obtain ⟨g, o, rfl, hlt0, hcc⟩ := hA (by intro h; rw [h] at h4; simp at h4)
  have HL : Hid (xss.length = 4) := h4
  have HR4 : Hid (∀ j, j < 4 → (xss.getD j []).length = 4) := hr
  have HX : Hid (∀ i j, 0 ≤ (xss.getD i []).getD j 0 ∧ (xss.getD i []).getD j 0 < q) := hx
  have HM : Hid (partM q xss part who by' = major (told4 part (lieF (partF xss part) q who by') 4)) := rfl
  rw [h4] at hb hcc
  clear hA hm h4 hr hx hc
  have bl := hb.lt
  have I0 : IntsT (w.alloc (.cells #[] 2)) (.slice (some ⟨w.heap.size, 0, none⟩) 0 0) [] [w.heap.size] := Own.made0' w 2 1 #[] 0 (by decide) rfl
  have B0 : Below w.heap.size w (w.alloc (.cells #[] 2)) := (by repeat (first | exact Below.refl _ _ | refine Below.drew ?_ | refine below_drewN ?_ _ | refine Below.setCell ?_ (by first | omega | (simp; done) | (simp; omega)) _ | refine Below.alloc ?_ (by first | omega | (simp; done) | (simp; omega)) _))
  have h1q : 1 ≤ q := by rcases hq with rfl | rfl <;> omega
  have h2q : q ≤ 256 := by rcases hq with rfl | rfl <;> omega
  go_enter Try.func36, Try.ntmps36
  go_wp2_with fail
  go_loopw [10, 11] (fun o' c' wr => ∃ n : Nat, ∃ bs : List Nat, n ≤ 4 ∧ c' = .int .i64 n ∧ IntsT wr o' (told4 part (lieF (partF xss part) q who by') n) bs ∧ (∀ y ∈ bs, w.heap.size ≤ y) ∧ Below w.heap.size w wr) (fun _ c' _ => 4 - (intOf c').toNat)
  case atStart => exact ⟨0, [w.heap.size], Nat.zero_le _, rfl, I0, by simp, B0⟩
  case round =>
    clear I0 B0
    obtain ⟨n, bs, hn, rfl, hI, hbs, hB⟩ := hrel
    have hlen := told4_len part (lieF (partF xss part) q who by') n
    obtain ⟨po, co, rfl⟩ := Own.value hI
    by_cases hlt : n < 4
    · have hi : (n : Int) < 4 := by omega
      by_cases h1 : n = part
      · have HN : Hid (told4 part (lieF (partF xss part) q who by') (n + 1) = told4 part (lieF (partF xss part) q who by') n) := told4_out _ h1
        have e1 : ((n : Int) == (part : Int)) = true := by simpa using (show (n : Int) = (part : Int) by omega)
        clear h1
        go_wp2
        go_roundw
        case rel => exact ⟨n + 1, bs, by omega, by go_num, by rw [HN.out]; exact hI, hbs, hB⟩
        case measure => simp [intOf]; omega
      · have HN : Hid (told4 part (lieF (partF xss part) q who by') (n + 1) = told4 part (lieF (partF xss part) q who by') n ++ [lieF (partF xss part) q who by' n]) := told4_in _ h1
        have e1 : ((n : Int) == (part : Int)) = false := by simpa using (show ¬ (n : Int) = (part : Int) by omega)
        have hI1 : Own wr 2 1 (.slice po (told4 part (lieF (partF xss part) q who by') n).length co) (told4 part (lieF (partF xss part) q who by') n).length ((told4 part (lieF (partF xss part) q who by') n).map (Value.int .i64)) bs := hI
        have hbw := (hb.below hB bl).at.1
        have hbl : b < wr.heap.size := Nat.lt_of_lt_of_le bl hB.size
        obtain ⟨pq, dq, k0, hrr⟩ := hcc n hlt
        have k0' : wr.cell? ⟨g, o + n, none⟩ = some (.slice pq 4 dq) := by rw [← HR4.out n hlt]; exact (hB.cell (p := ⟨g, o + n, none⟩) hlt0).trans k0
        obtain ⟨g2, o2, hpq, hl2, k1⟩ := (hrr.below hB).one part (by rw [HR4.out n hlt]; exact hp)
        subst hpq
        have hpi : (part : Int) < 4 := by omega
        have hpi0 : (0 : Int) ≤ (part : Int) := by omega
        have hx0 := HX.out n part
        have HPF : Hid (partF xss part n = (xss.getD n []).getD part 0) := rfl
        clear hI h1 k0 hrr
        generalize hxs : told4 part (lieF (partF xss part) q who by') n = xs at *
        have HXS : Hid (told4 part (lieF (partF xss part) q who by') n = xs) := hxs
        clear hxs
        generalize (xss.getD n []).getD part 0 = y at *
        by_cases h2 : (n : Int) = who
        · have e2 : ((n : Int) == who) = true := by simpa using h2
          have HV : Hid (lieF (partF xss part) q who by' n = (y + by') % q) := by show _ = _; rw [lieF_yes h2, HPF.out]
          have KM := fun V => spec_l1Mod q (y + by') V h1q h2q
          clear h2
          generalize (y + by') % q = z at *
          go_wp2_with fail
          refine (KM _).mono ?_
          rintro e w' ⟨rfl, rfl⟩
          go_wp2_with (at_builtin; refine wpList_append_Own rfl _ _ 26 rfl 2 i1 (.int .i64 0) 1 8 Try.underlying26 gi gz0 gz1 gz2 rfl (by decide) _ _ _ bs rfl (Own.alloc hI1 _) ⟨wr.heap.size, 0, none⟩ 1 1 [.int .i64 z] rfl rfl ?c1 ?c2 ?c3 ?c4 ?c5 ?_)
          case c1 => exact one_new (Blk.new _ _ _)
          case c2 => intro u hu; simp at hu; subst hu; rfl
          case c3 => omega
          case c4 => unfold maxLen; omega
          case c5 => omega
          intro gg cc w3 hO3 hoff hg3
          have hI3 : IntsT w3 (.slice (some ⟨gg, 0, none⟩) (xs.length + 1) cc) (told4 part (lieF (partF xss part) q who by') (n + 1)) [gg] := by
            unfold IntsT
            rw [HN.out, HV.out, List.map_append, List.length_append]
            exact hO3
          have hb3 : ∀ y ∈ [gg], w.heap.size ≤ y := by
            intro y hy
            simp at hy
            subst hy
            rcases hg3 with h | h
            · exact hbs _ (by rw [h]; simp)
            · have := hB.size; (try simp at h); omega
          have hB3 : Below w.heap.size w w3 := (hB.alloc hB.size (.cells #[.int .i64 z] 2)).trans (hoff.toBelow (hB.alloc hB.size (.cells #[.int .i64 z] 2)).size (fun y hy => by have := hbs y hy; omega))
          clear hO3 hoff hI1 hB hbw k0' k1
          go_wp2
          go_roundw
          case rel => exact ⟨n + 1, [gg], by omega, by go_num, hI3, hb3, hB3⟩
          case measure => simp [intOf]; omega
        · have e2 : ((n : Int) == who) = false := by simpa using h2
          have HV : Hid (lieF (partF xss part) q who by' n = y) := by show _ = _; rw [lieF_no h2, HPF.out]
          clear h2
          go_wp2_with (at_builtin; refine wpList_append_Own rfl _ _ 26 rfl 2 i1 (.int .i64 0) 1 8 Try.underlying26 gi gz0 gz1 gz2 rfl (by decide) _ _ _ bs rfl (Own.alloc hI1 _) ⟨wr.heap.size, 0, none⟩ 1 1 [.int .i64 y] rfl rfl ?c1 ?c2 ?c3 ?c4 ?c5 ?_)
          case c1 => exact one_new (Blk.new _ _ _)
          case c2 => intro u hu; simp at hu; subst hu; rfl
          case c3 => omega
          case c4 => unfold maxLen; omega
          case c5 => omega
          intro gg cc w3 hO3 hoff hg3
          have hI3 : IntsT w3 (.slice (some ⟨gg, 0, none⟩) (xs.length + 1) cc) (told4 part (lieF (partF xss part) q who by') (n + 1)) [gg] := by
            unfold IntsT
            rw [HN.out, HV.out, List.map_append, List.length_append]
            exact hO3
          have hb3 : ∀ y ∈ [gg], w.heap.size ≤ y := by
            intro y hy
            simp at hy
            subst hy
            rcases hg3 with h | h
            · exact hbs _ (by rw [h]; simp)
            · have := hB.size; (try simp at h); omega
          have hB3 : Below w.heap.size w w3 := (hB.alloc hB.size (.cells #[.int .i64 y] 2)).trans (hoff.toBelow (hB.alloc hB.size (.cells #[.int .i64 y] 2)).size (fun y hy => by have := hbs y hy; omega))
          clear hO3 hoff hI1 hB hbw k0' k1
          go_wp2
          go_roundw
          case rel => exact ⟨n + 1, [gg], by omega, by go_num, hI3, hb3, hB3⟩
          case measure => simp [intOf]; omega
    · obtain rfl : n = 4 := by omega
      have hl3 := told4_three' part (lieF (partF xss part) q who by') hp
      generalize hxs : told4 part (lieF (partF xss part) q who by') 4 = xs at *
      obtain ⟨t0, t1, t2, rfl⟩ := three_of xs hl3
      have HXS : Hid (partM q xss part who by' = major [t0, t1, t2]) := by show _ = _; rw [HM.out]
      obtain ⟨g3, cap3, rfl, eg, -, -⟩ := Own.shape hI (by simp)
      simp only [Value.slice.injEq, true_and] at eg
      obtain ⟨rfl, rfl⟩ := eg
      have c0 : wr.cell? ⟨g3, 0, none⟩ = some (.int .i64 t0) := by rw [Own.cell hI 0 (by simp)]; rfl
      have c1 : wr.cell? ⟨g3, 1, none⟩ = some (.int .i64 t1) := by rw [Own.cell hI 1 (by simp)]; rfl
      have c2 : wr.cell? ⟨g3, 2, none⟩ = some (.int .i64 t2) := by rw [Own.cell hI 2 (by simp)]; rfl
      have hgl := Own.lt hI g3 (by simp)
      have HS : Hid (∀ V, Below wr.heap.size wr V → V.cell? ⟨g3, 0, none⟩ = some (.int .i64 t0) ∧ V.cell? ⟨g3, 1, none⟩ = some (.int .i64 t1) ∧ V.cell? ⟨g3, 2, none⟩ = some (.int .i64 t2)) := fun V h => ⟨(h.cell (p := ⟨g3, 0, none⟩) hgl).trans c0, (h.cell (p := ⟨g3, 1, none⟩) hgl).trans c1, (h.cell (p := ⟨g3, 2, none⟩) hgl).trans c2⟩
      have HT : Hid _ := major_tuple t0 t1 t2
      have K := fun V => (spec_l1Major t0 t1 t2 V).mono (R' := fun e w' => e = .returned (.tuple #[.int .i64 (if t0 = t1 ∨ t0 = t2 then t0 else t1), .bool (decide (t0 = t1 ∨ t0 = t2 ∨ t1 = t2))]) ∧ Below V.heap.size V w') (fun e w' h => ⟨h.1, h.2 ▸ Below.refl _ _⟩)
      generalize (if t0 = t1 ∨ t0 = t2 then t0 else t1) = rx at *
      generalize hrb : decide (t0 = t1 ∨ t0 = t2 ∨ t1 = t2) = rb at *
      clear hrb c0 c1 c2 hI hxs hl3 hlen
      simp only [List.length_cons, List.length_nil]
      go_wp2_with fail
      have hS0 := HS.out wr.drew (Below.refl _ _).drew
      go_region_held3 (fun V => V.cell? ⟨g3, 0, none⟩ = some (.int .i64 t0) ∧ V.cell? ⟨g3, 1, none⟩ = some (.int .i64 t1) ∧ V.cell? ⟨g3, 2, none⟩ = some (.int .i64 t2)) (first | (have _k := tk1; exact HS.out _ B9) | exact hS0) (first | (go_at_call 70; refine (K _).mono ?_; rintro e w9 ⟨rfl, hb9⟩; have B9 := (Below.refl wr.heap.size wr).drew.trans hb9; have tk1 : Hid True := trivial))
      have BB := hB.trans (B9.mono hB.size)
      go_wp2
      exact bodyPost_ret (v := .tuple #[.int .i64 rx, .bool rb]) (by simp [results, Try.results36, go_sem]) rfl ⟨rx, by rw [HXS.out, ← HT.out.1], by rw [HXS.out]; exact HT.out.2, BB⟩
end Go.Proofs.Ytcnbkdpmcohlgam
