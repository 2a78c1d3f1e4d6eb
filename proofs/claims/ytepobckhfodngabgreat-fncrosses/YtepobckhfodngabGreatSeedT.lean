/-
  A seeded tape, each lane in a block that was made for whole numbers.
-/
import Derived.Test.YtepobckhfodngabGreatSeedS
import Derived.Test.YtepobckhfodngabGreatMatT
namespace Go.Proofs.YtepobckhfodngabGreat
open Go.ChangeShapes Go.WideShapes Go.ChangeAt Go.RowKit
set_option linter.unusedVariables false

def OwTapeT (w : World) (v : Value) (x : List (List Int)) (b0 : List Nat) : Prop := ∃ p0 c0, v = .agg #[.slice p0 x.length c0] ∧ MatT w (.slice p0 x.length c0) x b0
set_option maxHeartbeats 4000000 in
set_option maxRecDepth 100000 in
theorem spec_l2SeedT (s : Int) (n : Nat) (w : World) (h0 : 0 ≤ s) (h1 : s ≤ 65535) (hn : n ≤ 900) :
    Calls Tryz.prog 109 #[.int .i64 s, .int .i64 n] w fun e w' => ∃ u b0, e = .returned u ∧ OwTapeT w' u (seedRows s n) b0 ∧ (∀ y ∈ b0, w.heap.size ≤ y) ∧ Below w.heap.size w w' := by
  obtain ⟨i0, hi, hz0, hz1, hz2⟩ := info_parts Tryz.infoS
  obtain ⟨i1, gi, gz0, gz1, gz2⟩ := info_parts Tryz.infoI
  have HA : Hid (∀ k, 0 ≤ seedAt s k ∧ seedAt s k ≤ 65536) := seedAt_range s h0 (by omega)
  have Y0 : Blk ((w.alloc (.cells #[.slice none 0 0] 26)).alloc (.cells #[.slice none 0 0] 26)) w.heap.size 26 #[.slice none 0 0] := (Blk.new w _ _).alloc _
  have Z0 : Blk ((w.alloc (.cells #[.slice none 0 0] 26)).alloc (.cells #[.slice none 0 0] 26)) (w.heap.size + 1) 26 #[.slice none 0 0] := by simpa using Blk.new (w.alloc (.cells #[.slice none 0 0] 26)) 26 #[.slice none 0 0]
  have B0 : Below w.heap.size w ((w.alloc (.cells #[.slice none 0 0] 26)).alloc (.cells #[.slice none 0 0] 26)) := (by repeat (first | exact Below.refl _ _ | refine Below.drew ?_ | refine below_drewN ?_ _ | refine Below.setCell ?_ (by first | omega | (simp; done) | (simp; omega)) _ | refine Below.alloc ?_ (by first | omega | (simp; done) | (simp; omega)) _))
  go_enter Tryz.func109, Tryz.ntmps109
  go_wp2
  go_loopw [0, 6, 7, 8] (fun sv i _ _ wr => ∃ k : Nat, ∃ ov : Value, ∃ vs : List Value, ∃ bo : List Nat, ∃ bi : List (List Nat), k ≤ 4 ∧ i = .int .i64 k ∧ sv = .int .i64 (seedAt s (k * n)) ∧ Blk wr w.heap.size 26 #[.slice none 0 0] ∧ Blk wr (w.heap.size + 1) 26 #[ov] ∧ Own wr 27 1 ov k vs bo ∧ RowsT wr vs ((seedRows s n).take k) bi ∧ (bo ++ bi.flatten).Nodup ∧ (∀ x ∈ bo ++ bi.flatten, w.heap.size + 1 < x) ∧ Below w.heap.size w wr) (fun _ i _ _ _ => 4 - (intOf i).toNat)
  case atStart => exact ⟨0, _, [], [], [], Nat.zero_le _, rfl, by rw [Nat.zero_mul]; rfl, Y0, Z0, ⟨rfl, .inl ⟨rfl, rfl, rfl⟩⟩, trivial, by simp, by simp, B0⟩
  case round =>
    obtain ⟨k, ov, vs, bo, bi, hk, rfl, rfl, Y, Z, hO, hR, hnd, hgt, B⟩ := hrel
    clear Y0 Z0 B0
    by_cases hlt : k < 4
    · have hi' : (k : Int) < 4 := by omega
      have HT : Hid ((seedRows s n).take (k + 1) = (seedRows s n).take k ++ [seedRow s n k]) := by
        show _ = _
        rw [List.take_succ_eq_append_getElem (by simp [seedRows]; omega)]
        simp [seedRows]
      obtain ⟨wo, ewo⟩ : ∃ x : World, x = wr := ⟨_, rfl⟩
      subst ewo
      obtain ⟨po, co, rfl⟩ := Own.value hO
      have zl := Z.lt
      go_wp2_with fail
      go_loopw [0, 7, 8] (fun sv lv i wr => ∃ m : Nat, ∃ lb : List Nat, m ≤ n ∧ i = .int .i64 m ∧ sv = .int .i64 (seedAt s (k * n + m)) ∧ IntsT wr lv ((seedRow s n k).take m) lb ∧ (∀ x ∈ lb, wo.heap.size ≤ x) ∧ Below wo.heap.size wo wr) (fun _ _ i _ => n - (intOf i).toNat)
      case atStart => exact ⟨0, [wo.heap.size], Nat.zero_le _, rfl, rfl, Own.made wo 2 1 #[] 0 (Nat.zero_le _) rfl, by simp, (by repeat (first | exact Below.refl _ _ | refine Below.drew ?_ | refine below_drewN ?_ _ | refine Below.setCell ?_ (by first | omega | (simp; done) | (simp; omega)) _ | refine Below.alloc ?_ (by first | omega | (simp; done) | (simp; omega)) _))⟩
      case round =>
        obtain ⟨m, lb, hm, rfl, rfl, hI, hlb, Bq⟩ := hrel
        by_cases hlt2 : m < n
        · obtain ⟨r1, r2⟩ := HA.out (k * n + m)
          have HW : Hid ((seedRow s n k).take (m + 1) = (seedRow s n k).take m ++ [seedNext (seedAt s (k * n + m)) / 7 % 256]) := by
            show _ = _
            rw [List.take_succ_eq_append_getElem (by rw [seedRow_length]; exact hlt2)]
            simp [seedRow, seedWord, seedAt]
          have HN : Hid (seedAt s (k * n + (m + 1)) = (seedAt s (k * n + m) * 75 + 74) % 65537) := rfl
          have HX : Hid (seedNext (seedAt s (k * n + m)) = (seedAt s (k * n + m) * 75 + 74) % 65537) := rfl
          have hlen : Hid (((seedRow s n k).take m).length = m) := by show _ = _; simp [seedRow_length]; omega
          have hi2 : (m : Int) < (n : Int) := by omega
          rw [HX.out] at HW
          clear HX
          obtain ⟨pl, cl, rfl⟩ := Own.value hI
          generalize seedAt s (k * n + m) = y at *
          generalize (seedRow s n k).take m = xs at *
          have hxl : xs.length ≤ 900 := by have := hlen.out; omega
          have hy : 0 ≤ (y * 75 + 74) % 65537 ∧ (y * 75 + 74) % 65537 < 65537 := by omega
          go_wp2_with (at_builtin; refine wpList_append_Own rfl _ _ 27 rfl 2 i1 (.int .i64 0) 1 8 Tryz.underlying27 gi gz0 gz1 gz2 rfl (by decide) _ _ _ lb rfl (Own.alloc hI _) ⟨wr.heap.size, 0, none⟩ 1 1 [.int .i64 ((y * 75 + 74) % 65537 / 7 % 256)] rfl rfl ?c1 ?c2 ?c3 ?c4 ?c5 ?_)
          case c1 => exact one_new (Blk.new _ _ _)
          case c2 => intro u hu; simp at hu; subst hu; rfl
          case c3 => omega
          case c4 => unfold maxLen; omega
          case c5 => omega
          intro g cap w2 hO2 hoff hg2
          have hsz := Bq.size
          have hI2 : IntsT w2 (.slice (some ⟨g, 0, none⟩) (xs.length + 1) cap) ((seedRow s n k).take (m + 1)) [g] := by
            unfold IntsT
            rw [HW.out, List.map_append, List.length_append]
            exact hO2
          have hb2 : ∀ x ∈ [g], wo.heap.size ≤ x := by
            intro x hx
            simp at hx
            subst hx
            rcases hg2 with h | h
            · exact hlb x (by rw [h]; simp)
            · (try simp at h); omega
          have Bq2 : Below wo.heap.size wo w2 := (Bq.alloc Bq.size (.cells #[.int .i64 ((y * 75 + 74) % 65537 / 7 % 256)] 2)).trans (hoff.toBelow (by simp; omega) hlb)
          clear hO2 hoff hg2 hI Bq hlb
          go_wp2
          go_roundw
          case rel => exact ⟨m + 1, [g], by omega, by go_num, by rw [HN.out], hI2, hb2, Bq2⟩
          case measure => simp [intOf]; omega
        · obtain rfl : m = n := by omega
          have HN : Hid (seedAt s (k * m + m) = seedAt s ((k + 1) * m)) := by show _ = _; rw [Nat.succ_mul]
          have e : (seedRow s m k).take m = seedRow s m k := List.take_of_length_le (by rw [seedRow_length]; exact Nat.le_refl _)
          rw [e] at hI
          obtain ⟨pl, cl, rfl⟩ := IntsT.value hI
          clear e
          generalize seedRow s m k = row at *
          have Y2 := Y.keep Bq
          have Z2 := Z.keep Bq
          have hO2 := Own.keep hO Bq
          have hR2 := hR.keep Bq
          have B2 := B.trans (Bq.mono B.size)
          have lt0 := Own.lt hO
          have lt1 := hR.lt
          have za := Z2.at.1
          have zb := Z2.at.2
          have zl2 := Z2.lt
          have hsz := Bq.size
          have hbz := B.size
          clear Y Z hO hR B Bq
          go_wp2_with (at_builtin; refine wpList_append_Own rfl _ _ 24 rfl 27 i0 (.slice none 0 0) 1 24 Tryz.underlying24 hi hz0 hz1 hz2 rfl (by decide) _ _ _ bo rfl (Own.alloc hO2 _) ⟨wr.heap.size, 0, none⟩ 1 1 [.slice pl row.length cl] rfl rfl ?c1 ?c2 ?c3 ?c4 ?c5 ?_)
          case c1 => exact one_new (Blk.new _ _ _)
          case c2 => intro u hu; simp at hu; subst hu; rfl
          case c3 => omega
          case c4 => unfold maxLen; omega
          case c5 => omega
          intro g cap w3 hO3 hoff hg3
          have hR3 := hR2.keep ((Below.refl wr.heap.size wr).alloc (Nat.le_refl _) (.cells #[.slice pl row.length cl] 27))
          have hI3 := IntsT.alloc hI (.cells #[.slice pl row.length cl] 27)
          obtain ⟨R3, N3⟩ := RowsT.push hR3 hI3 hoff hnd (fun x hx hm => by have := hlb x hx; rcases List.mem_append.1 hm with h | h; (have := lt0 x h; omega); (have := lt1 x h; omega)) hI.nodup (hg3.imp id (fun h => by simpa using h))
          have zg : ∀ x ∈ [g] ++ (bi ++ [lb]).flatten, w.heap.size + 1 < x := by
            intro x hx
            simp only [List.flatten_append, List.flatten_cons, List.flatten_nil, List.append_nil, List.mem_append] at hx
            rcases hx with hx | hx | hx
            · simp at hx
              subst hx
              rcases hg3 with h | h
              · exact hgt x (by rw [h]; simp)
              · (try simp at h); omega
            · exact hgt x (List.mem_append_right _ hx)
            · have := hlb x hx; omega
          have Y3 := (Y2.alloc (.cells #[.slice pl row.length cl] 27)).off hoff (fun hm => by have := hgt _ (List.mem_append_left _ hm); omega)
          have Z3 := (Z2.alloc (.cells #[.slice pl row.length cl] 27)).off hoff (fun hm => by have := hgt _ (List.mem_append_left _ hm); omega)
          have B3 : Below w.heap.size w w3 := (B2.alloc B2.size (.cells #[.slice pl row.length cl] 27)).trans (hoff.toBelow (by simp; omega) (fun x hx => by have := hgt x (List.mem_append_left _ hx); omega))
          rw [← HT.out] at R3
          have OO : ∀ W, Off [w.heap.size + 1] w3 W → Blk W (w.heap.size + 1) 26 #[.slice (some ⟨g, 0, none⟩) (k + 1) cap] → (k + 1 ≤ 4 ∧ Value.int .i64 ((k : Int) + 1) = .int .i64 ((k + 1 : Nat) : Int) ∧ Value.int .i64 (seedAt s (k * m + m)) = .int .i64 (seedAt s ((k + 1) * m)) ∧ Blk W w.heap.size 26 #[.slice none 0 0] ∧ Blk W (w.heap.size + 1) 26 #[.slice (some ⟨g, 0, none⟩) (k + 1) cap] ∧ Own W 27 1 (.slice (some ⟨g, 0, none⟩) (k + 1) cap) (k + 1) (vs ++ [.slice pl row.length cl]) [g] ∧ RowsT W (vs ++ [.slice pl row.length cl]) ((seedRows s m).take (k + 1)) (bi ++ [lb]) ∧ ([g] ++ (bi ++ [lb]).flatten).Nodup ∧ (∀ x ∈ [g] ++ (bi ++ [lb]).flatten, w.heap.size + 1 < x) ∧ Below w.heap.size w W) := fun W OO ZW => ⟨by omega, by rw [Int.natCast_add]; rfl, by rw [HN.out], Y3.off OO (by simp), ZW, Own.off hO3 OO (fun x hx hm => by have := zg x (List.mem_append_left _ hx); simp at hm; omega), R3.off OO (fun x hx hm => by have := zg x (List.mem_append_right _ hx); simp at hm; omega), N3, zg, B3.trans (OO.toBelow B3.size (by simp))⟩
          have za3 := Z3.at.1
          have zb3 := Z3.at.2
          clear hI hI3 hR2 hR3 hO2 hoff Y2 Z2 B2 za zb hlb hnd hgt
          go_wp2
          go_roundw
          case rel => exact ⟨k + 1, _, _, _, _, OO _ ((Off.refl _ _).setCell _ _ (by simp)) (Blk.of_eq (Z3.set 0 _) (by simp))⟩
          case measure => simp [intOf]; omega
    · obtain rfl : k = 4 := by omega
      have e : (seedRows s n).take 4 = seedRows s n := List.take_of_length_le (by simp [seedRows])
      have hl4 : (seedRows s n).length = 4 := by simp [seedRows]
      rw [e] at hR
      obtain ⟨po, co, rfl⟩ := Own.value hO
      have hM : MatT wr (.slice po 4 co) (seedRows s n) (bo ++ bi.flatten) := ⟨vs, bo, bi, by rw [hl4]; exact hO, hR, rfl, hnd⟩
      have ya := Y.at.1
      have yb := Y.at.2
      have za := Z.at.1
      have HL : Hid ((seedRows s n).length = 4) := hl4
      clear hO hR hl4 e
      have OO : ∀ W, Off [w.heap.size] wr W → (∃ u b0, Ending.returned (.agg #[.slice po 4 co]) = .returned u ∧ OwTapeT W u (seedRows s n) b0 ∧ (∀ y ∈ b0, w.heap.size ≤ y) ∧ Below w.heap.size w W) := fun W OO => ⟨_, _, rfl, ⟨po, co, by rw [HL.out], by rw [HL.out]; exact hM.off OO (fun x hx hm => by have := hgt x hx; simp at hm; omega)⟩, fun y hy => by have := hgt y hy; omega, B.trans (OO.toBelow B.size (by simp))⟩
      go_wp2
      exact bodyPost_ret (v := .agg #[.slice po 4 co]) (by simp [results, Tryz.results109, go_sem, ya]) rfl (OO _ (by repeat (first | exact Off.refl _ _ | refine Off.setCell ?_ _ _ (by simp))))
end Go.Proofs.YtepobckhfodngabGreat
