/-
  Multiples put together, in the model, of mirrors that lie anywhere in a block.
-/
import Derived.Test.YtepobckhfodngaoGreatMirM
namespace Go.Proofs.YtepobckhfodngaoGreat
open Go.ChangeShapes Go.WideShapes Go.ChangeAt Go.RowKit
set_option linter.unusedVariables false
/-- a mirror anywhere in a block, its parts in reach -/
def FourAt (w : World) (b y : Nat) (q : Int) (xss : List (List Int)) : Prop := ∃ v, b < w.heap.size ∧ w.cell? ⟨b, y, none⟩ = some (.int .i64 q) ∧ w.cell? ⟨b, y + 1, none⟩ = some v ∧ ReadsM w v xss ∧ xss.length = 4 ∧ (∀ i, i < 4 → (xss.getD i []).length = 4) ∧ ∀ i j, 0 ≤ pt xss i j ∧ pt xss i j < 256
theorem FourAt.below {w w' : World} {b y : Nat} {q : Int} {xss : List (List Int)} (h : FourAt w b y q xss) (hb : Below w.heap.size w w') : FourAt w' b y q xss := by
  obtain ⟨v, hl, h0, h1, h2, h3⟩ := h
  exact ⟨v, Nat.lt_of_lt_of_le hl hb.size, (hb.cell (p := ⟨b, y, none⟩) hl).trans h0, (hb.cell (p := ⟨b, y + 1, none⟩) hl).trans h1, h2.below hb, h3⟩
theorem FourAt.cellsAll {w : World} {b y : Nat} {q : Int} {xss : List (List Int)} (h : FourAt w b y q xss) (i k : Nat) (hi : i < 4) (hk : k < 4) :
    ∃ gb off c g2 o2 d, ∀ W, Below w.heap.size w W → (W.cell? ⟨b, y, none⟩ = some (.int .i64 q) ∧ W.cell? ⟨b, y + 1, none⟩ = some (.slice (some ⟨gb, off, none⟩) 4 c)) ∧ W.cell? ⟨gb, off + i, none⟩ = some (.slice (some ⟨g2, o2, none⟩) 4 d) ∧ W.cell? ⟨g2, o2 + k, none⟩ = some (.int .i64 (pt xss i k)) := by
  obtain ⟨v, hl, e0, e1, h2, h4, hr, _⟩ := h
  obtain ⟨p, c, rfl⟩ := h2.shp
  obtain ⟨gb, off, g2, o2, d, rfl, c1, c2⟩ := h2.part h4 hr i k hi hk
  refine ⟨gb, off, c, g2, o2, d, fun W B => ?_⟩
  rw [h4] at e1
  exact ⟨⟨(B.cell (p := ⟨b, y, none⟩) hl).trans e0, (B.cell (p := ⟨b, y + 1, none⟩) hl).trans e1⟩, kcell c1 B, kcell c2 B⟩
theorem FourAt.q {w : World} {b y : Nat} {q : Int} {xss : List (List Int)} (h : FourAt w b y q xss) : w.cell? ⟨b, y, none⟩ = some (.int .i64 q) := by
  obtain ⟨v, _, h1, _⟩ := h
  exact h1
set_option maxHeartbeats 4000000 in
set_option maxRecDepth 100000 in
theorem spec_l3Mix_at (a ya b yb : Nat) (q q' t : Int) (xss yss : List (List Int)) (w : World) (ha : FourAt w a ya q xss) (hb : FourAt w b yb q' yss) (hq : isQ q) (ht : -256 ≤ t) (ht' : t ≤ 256) :
    Calls Tryz.prog 65 #[.pointer (some ⟨a, ya, none⟩), .pointer (some ⟨b, yb, none⟩), .int .i64 t] w fun e w' => ∃ u b0, e = .returned u ∧ OwMirror w' u ⟨q, mixRows q xss yss t⟩ b0 ∧ (∀ y ∈ b0, w.heap.size ≤ y) ∧ Below w.heap.size w w' := by
  obtain ⟨i0, hi, hz0, hz1, hz2⟩ := info_parts Tryz.infoS
  obtain ⟨i1, gi, gz0, gz1, gz2⟩ := info_parts Tryz.infoI
  have Y0 : Blk ((w.alloc (.cells #[.int .i64 0, .slice none 0 0] 36)).alloc (.cells #[.int .i64 q, .slice none 0 0] 36)) w.heap.size 36 #[.int .i64 0, .slice none 0 0] := (Blk.new w _ _).alloc _
  have Z0 : Blk ((w.alloc (.cells #[.int .i64 0, .slice none 0 0] 36)).alloc (.cells #[.int .i64 q, .slice none 0 0] 36)) (w.heap.size + 1) 36 #[.int .i64 q, .slice none 0 0] := by simpa using Blk.new (w.alloc (.cells #[.int .i64 0, .slice none 0 0] 36)) 36 #[.int .i64 q, .slice none 0 0]
  have B0 : Below w.heap.size w ((w.alloc (.cells #[.int .i64 0, .slice none 0 0] 36)).alloc (.cells #[.int .i64 q, .slice none 0 0] 36)) := (by repeat (first | exact Below.refl _ _ | refine Below.drew ?_ | refine below_drewN ?_ _ | refine Below.setCell ?_ (by first | omega | (simp; done) | (simp; omega)) _ | refine Below.alloc ?_ (by first | omega | (simp; done) | (simp; omega)) _))
  have aq := (ha.below ((Below.refl _ _).alloc (Nat.le_refl _) (.cells #[.int .i64 0, .slice none 0 0] 36))).q
  have aq0 := ha.q
  go_enter Tryz.func65, Tryz.ntmps65
  go_wp2
  clear aq aq0
  have HA0 : Hid (FourAt w a ya q xss) := ha
  have HB0 : Hid (FourAt w b yb q' yss) := hb
  have HPA : Hid (∀ i j, 0 ≤ pt xss i j ∧ pt xss i j < 256) := by obtain ⟨_, _, _, _, _, _, _, h⟩ := ha; exact h
  have HPB : Hid (∀ i j, 0 ≤ pt yss i j ∧ pt yss i j < 256) := by obtain ⟨_, _, _, _, _, _, _, h⟩ := hb; exact h
  clear ha hb
  go_loopw [8, 9, 10] (fun i _ _ wr => ∃ k : Nat, ∃ ov : Value, ∃ vs : List Value, ∃ bo : List Nat, ∃ bi : List (List Nat), k ≤ 4 ∧ i = .int .i64 k ∧ Blk wr w.heap.size 36 #[.int .i64 0, .slice none 0 0] ∧ Blk wr (w.heap.size + 1) 36 #[.int .i64 q, ov] ∧ Own wr 25 1 ov k vs bo ∧ Rows wr vs ((mixRows q xss yss t).take k) bi ∧ (bo ++ bi.flatten).Nodup ∧ (∀ x ∈ bo ++ bi.flatten, w.heap.size + 1 < x) ∧ Below w.heap.size w wr) (fun i _ _ _ => 4 - (intOf i).toNat)
  case atStart => exact ⟨0, _, [], [], [], Nat.zero_le _, rfl, Y0, Z0, ⟨rfl, .inl ⟨rfl, rfl, rfl⟩⟩, trivial, by simp, by simp, B0⟩
  case round =>
    obtain ⟨k, ov, vs, bo, bi, hk, rfl, Y, Z, hO, hR, hnd, hgt, B⟩ := hrel
    clear Y0 Z0 B0
    by_cases hlt : k < 4
    · have hi' : (k : Int) < 4 := by omega
      have hi0 : (0 : Int) ≤ (k : Int) := by omega
      have HT : Hid ((mixRows q xss yss t).take (k + 1) = (mixRows q xss yss t).take k ++ [mixRow q xss yss t k]) := by
        show _ = _
        rw [List.take_succ_eq_append_getElem (by simp [mixRows]; omega)]
        simp [mixRows]
      obtain ⟨wo, ewo⟩ : ∃ x : World, x = wr := ⟨_, rfl⟩
      subst ewo
      obtain ⟨po, co, rfl⟩ := Own.value hO
      have zl := Z.lt
      have HBo : Hid (Below w.heap.size w wo) := B
      go_wp2_with fail
      go_loopw [9, 10] (fun lv i wr => ∃ m : Nat, ∃ lb : List Nat, m ≤ 4 ∧ i = .int .i64 m ∧ IntsT wr lv ((mixRow q xss yss t k).take m) lb ∧ (∀ x ∈ lb, wo.heap.size ≤ x) ∧ Below wo.heap.size wo wr) (fun _ i _ => 4 - (intOf i).toNat)
      case atStart => exact ⟨0, [wo.heap.size], Nat.zero_le _, rfl, Own.made wo 2 1 #[] 0 (Nat.zero_le _) rfl, by simp, (by repeat (first | exact Below.refl _ _ | refine Below.drew ?_ | refine below_drewN ?_ _ | refine Below.setCell ?_ (by first | omega | (simp; done) | (simp; omega)) _ | refine Below.alloc ?_ (by first | omega | (simp; done) | (simp; omega)) _))⟩
      case round =>
        obtain ⟨m, lb, hm, rfl, hI, hlb, Bq⟩ := hrel
        by_cases hlt2 : m < 4
        · have BB : Below w.heap.size w wr := HBo.out.trans (Bq.mono HBo.out.size)
          obtain ⟨ga, oa, ca, ga2, oa2, da, KA⟩ := HA0.out.cellsAll k m hlt hlt2
          obtain ⟨gb, ob, cb, gb2, ob2, db, KB⟩ := HB0.out.cellsAll k m hlt hlt2
          have HW : Hid ((mixRow q xss yss t k).take (m + 1) = (mixRow q xss yss t k).take m ++ [(pt xss k m + t * pt yss k m) % q]) := by
            show _ = _
            rw [List.take_succ_eq_append_getElem (by simp [mixRow]; omega)]
            simp [mixRow, mixAt]
          have hlen : Hid (((mixRow q xss yss t k).take m).length = m) := by show _ = _; simp [mixRow]; omega
          have hi2 : (m : Int) < 4 := by omega
          have hi20 : (0 : Int) ≤ (m : Int) := by omega
          have hp := HPA.out k m
          have hr := HPB.out k m
          obtain ⟨pl, cl, rfl⟩ := Own.value hI
          generalize pt xss k m = x at *
          generalize pt yss k m = y at *
          generalize (mixRow q xss yss t k).take m = zs at *
          have hxl : zs.length ≤ 4 := by have := hlen.out; omega
          have tp : -65536 ≤ t * y ∧ t * y ≤ 65536 := by
            constructor
            · have : -(256 * 256) ≤ t * y := by
                rcases Int.le_total 0 t with h | h
                · have := Int.mul_nonneg h hr.1; omega
                · have h1 := Int.mul_le_mul_of_nonneg_right (show -t ≤ 256 by omega) hr.1
                  have h2 : -t * y = -(t * y) := Int.neg_mul t y
                  omega
              omega
            · rcases Int.le_total 0 t with h | h
              · have h1 := Int.mul_le_mul_of_nonneg_right ht' hr.1
                omega
              · have h1 := Int.mul_nonneg (show 0 ≤ -t by omega) hr.1
                have h2 : -t * y = -(t * y) := Int.neg_mul t y
                omega
          have KS : Hid (∀ V, Below w.heap.size w V → (((V.cell? ⟨a, ya, none⟩ = some (.int .i64 q) ∧ V.cell? ⟨a, ya + 1, none⟩ = some (.slice (some ⟨ga, oa, none⟩) 4 ca)) ∧ V.cell? ⟨ga, oa + k, none⟩ = some (.slice (some ⟨ga2, oa2, none⟩) 4 da) ∧ V.cell? ⟨ga2, oa2 + m, none⟩ = some (.int .i64 x)) ∧ (V.cell? ⟨b, yb, none⟩ = some (.int .i64 q') ∧ V.cell? ⟨b, yb + 1, none⟩ = some (.slice (some ⟨gb, ob, none⟩) 4 cb)) ∧ V.cell? ⟨gb, ob + k, none⟩ = some (.slice (some ⟨gb2, ob2, none⟩) 4 db) ∧ V.cell? ⟨gb2, ob2 + m, none⟩ = some (.int .i64 y))) := fun V B => ⟨KA V B, KB V B⟩
          clear KA KB
          have BD : Below w.heap.size w wr.drew := BB.drew
          have hBs := HBo.out.size
          have hBq := Bq.size
          have hI1 : Own wr.drew 2 1 (.slice pl zs.length cl) zs.length (zs.map (Value.int .i64)) lb := hI
          clear BB
          go_wp2_with fail
          go_region_held3 (fun V => ((V.cell? ⟨a, ya, none⟩ = some (.int .i64 q) ∧ V.cell? ⟨a, ya + 1, none⟩ = some (.slice (some ⟨ga, oa, none⟩) 4 ca)) ∧ V.cell? ⟨ga, oa + k, none⟩ = some (.slice (some ⟨ga2, oa2, none⟩) 4 da) ∧ V.cell? ⟨ga2, oa2 + m, none⟩ = some (.int .i64 x)) ∧ (V.cell? ⟨b, yb, none⟩ = some (.int .i64 q') ∧ V.cell? ⟨b, yb + 1, none⟩ = some (.slice (some ⟨gb, ob, none⟩) 4 cb)) ∧ V.cell? ⟨gb, ob + k, none⟩ = some (.slice (some ⟨gb2, ob2, none⟩) 4 db) ∧ V.cell? ⟨gb2, ob2 + m, none⟩ = some (.int .i64 y)) (first | exact KS.out _ BD | exact KS.out _ (BD.alloc BD.size _) | exact KS.out _ BE) (first | (go_at_call 90; refine (spec_l1Mod _ _ _ (by rcases hq with h | h <;> omega) (by rcases hq with h | h <;> omega)).mono ?_; rintro e w9 ⟨rfl, rfl⟩) | (refine step_append_Own rfl (.tmp 25) (.tmp 54) 25 rfl 2 i1 (.int .i64 0) 1 8 Tryz.underlying25 gi gz0 gz1 gz2 rfl (by decide) (.slice pl zs.length cl) zs.length (zs.map (Value.int .i64)) lb rfl (Own.alloc hI1 _) ⟨wr.heap.size, 0, none⟩ 1 1 [.int .i64 (IntKind.i64.wrap (x + IntKind.i64.wrap (t * y)) % q)] rfl rfl (one_new (Blk.new _ _ _)) (by intro u hu; simp at hu; subst hu; rfl) (by omega) (by unfold maxLen; omega) (by omega) ?_; intro g cap w3 hO3 hOff hbo; have BE : Below w.heap.size w w3 := (BD.alloc BD.size _).trans (hOff.toBelow (by simp; omega) (fun x hx => by have := hlb x hx; omega))))
          have e1 : IntKind.i64.wrap (t * y) = t * y := by rw [IntWalk.i64_left]; exact IntWalk.wrap64_in _ ⟨by omega, by omega⟩
          have e2 : IntKind.i64.wrap (x + t * y) = x + t * y := by rw [IntWalk.i64_left]; exact IntWalk.wrap64_in _ ⟨by omega, by omega⟩
          rw [e1, e2] at hO3
          have hI2 : IntsT w3 (.slice (some ⟨g, 0, none⟩) (zs.length + 1) cap) ((mixRow q xss yss t k).take (m + 1)) [g] := by
            unfold IntsT
            rw [HW.out, List.map_append, List.length_append]
            exact hO3
          have hb2 : ∀ x ∈ [g], wo.heap.size ≤ x := by
            intro x hx
            simp at hx
            subst hx
            rcases hbo with h | h
            · exact hlb x (by rw [h]; simp)
            · (try simp at h); omega
          have Bq2 : Below wo.heap.size wo w3 := (Bq.drew.alloc Bq.drew.size _).trans (hOff.toBelow (by simp; omega) hlb)
          clear hO3 hOff hbo hI Bq hlb hI1 BD BE KS
          go_wp2
          go_roundw
          case rel => exact ⟨m + 1, [g], by omega, by go_num, hI2, hb2, Bq2⟩
          case measure => simp [intOf]; omega
        · obtain rfl : m = 4 := by omega
          have e : (mixRow q xss yss t k).take 4 = mixRow q xss yss t k := List.take_of_length_le (by simp [mixRow])
          rw [e] at hI
          replace hI := IntsT.ints hI
          obtain ⟨pl, cl, rfl⟩ := Ints.value hI
          clear e
          generalize mixRow q xss yss t k = row at *
          have Y2 := Y.keep Bq
          have Z2 := Z.keep Bq
          have hO2 := Own.keep hO Bq
          have hR2 := hR.keep Bq
          have B2 := B.trans (Bq.mono B.size)
          have lt0 := Own.lt hO
          have lt1 := hR.lt
          have za := Z2.at.1
          have zb := Z2.at.2
          have zl2 := Z2.lt
          have hsz := Bq.size
          have hbz := B.size
          clear Y Z hO hR B Bq
          go_wp2_with (at_builtin; refine wpList_append_Own rfl _ _ 22 rfl 25 i0 (.slice none 0 0) 1 24 Tryz.underlying22 hi hz0 hz1 hz2 rfl (by decide) _ _ _ bo rfl (Own.alloc hO2 _) ⟨wr.heap.size, 0, none⟩ 1 1 [.slice pl row.length cl] rfl rfl ?c1 ?c2 ?c3 ?c4 ?c5 ?_)
          case c1 => exact one_new (Blk.new _ _ _)
          case c2 => intro u hu; simp at hu; subst hu; rfl
          case c3 => omega
          case c4 => unfold maxLen; omega
          case c5 => omega
          intro g cap w3 hO3 hoff hg3
          have hR3 := hR2.keep ((Below.refl wr.heap.size wr).alloc (Nat.le_refl _) (.cells #[.slice pl row.length cl] 25))
          have hI3 := Ints.alloc hI (.cells #[.slice pl row.length cl] 25)
          obtain ⟨R3, N3⟩ := Rows.push hR3 hI3 hoff hnd (fun x hx hm => by have := hlb x hx; rcases List.mem_append.1 hm with h | h; (have := lt0 x h; omega); (have := lt1 x h; omega)) hI.nodup (hg3.imp id (fun h => by simpa using h))
          have zg : ∀ x ∈ [g] ++ (bi ++ [lb]).flatten, w.heap.size + 1 < x := by
            intro x hx
            simp only [List.flatten_append, List.flatten_cons, List.flatten_nil, List.append_nil, List.mem_append] at hx
            rcases hx with hx | hx | hx
            · simp at hx
              subst hx
              rcases hg3 with h | h
              · exact hgt x (by rw [h]; simp)
              · (try simp at h); omega
            · exact hgt x (List.mem_append_right _ hx)
            · have := hlb x hx; omega
          have Y3 := (Y2.alloc (.cells #[.slice pl row.length cl] 25)).off hoff (fun hm => by have := hgt _ (List.mem_append_left _ hm); omega)
          have Z3 := (Z2.alloc (.cells #[.slice pl row.length cl] 25)).off hoff (fun hm => by have := hgt _ (List.mem_append_left _ hm); omega)
          have B3 : Below w.heap.size w w3 := (B2.alloc B2.size (.cells #[.slice pl row.length cl] 25)).trans (hoff.toBelow (by simp; omega) (fun x hx => by have := hgt x (List.mem_append_left _ hx); omega))
          rw [← HT.out] at R3
          have OO : ∀ W, Off [w.heap.size + 1] w3 W → Blk W (w.heap.size + 1) 36 #[.int .i64 q, .slice (some ⟨g, 0, none⟩) (k + 1) cap] → (k + 1 ≤ 4 ∧ Value.int .i64 ((k : Int) + 1) = .int .i64 ((k + 1 : Nat) : Int) ∧ Blk W w.heap.size 36 #[.int .i64 0, .slice none 0 0] ∧ Blk W (w.heap.size + 1) 36 #[.int .i64 q, .slice (some ⟨g, 0, none⟩) (k + 1) cap] ∧ Own W 25 1 (.slice (some ⟨g, 0, none⟩) (k + 1) cap) (k + 1) (vs ++ [.slice pl row.length cl]) [g] ∧ Rows W (vs ++ [.slice pl row.length cl]) ((mixRows q xss yss t).take (k + 1)) (bi ++ [lb]) ∧ ([g] ++ (bi ++ [lb]).flatten).Nodup ∧ (∀ x ∈ [g] ++ (bi ++ [lb]).flatten, w.heap.size + 1 < x) ∧ Below w.heap.size w W) := fun W OO ZW => ⟨by omega, by rw [Int.natCast_add]; rfl, Y3.off OO (by simp), ZW, Own.off hO3 OO (fun x hx hm => by have := zg x (List.mem_append_left _ hx); simp at hm; omega), R3.off OO (fun x hx hm => by have := zg x (List.mem_append_right _ hx); simp at hm; omega), N3, zg, B3.trans (OO.toBelow B3.size (by simp))⟩
          have za3 := Z3.at.1
          have zb3 := Z3.at.2
          clear hI hI3 hR2 hR3 hO2 hoff Y2 Z2 B2 za zb hlb hnd hgt
          go_wp2
          go_roundw
          case rel => exact ⟨k + 1, _, _, _, _, OO _ ((Off.refl _ _).setCell _ _ (by simp)) (Blk.of_eq (Z3.set 1 _) (by simp))⟩
          case measure => simp [intOf]; omega
    · obtain rfl : k = 4 := by omega
      have e : (mixRows q xss yss t).take 4 = mixRows q xss yss t := List.take_of_length_le (by simp [mixRows])
      have hl4 : (mixRows q xss yss t).length = 4 := by simp [mixRows]
      rw [e] at hR
      obtain ⟨po, co, rfl⟩ := Own.value hO
      have hM : Mat wr (.slice po 4 co) (mixRows q xss yss t) (bo ++ bi.flatten) := ⟨vs, bo, bi, by rw [hl4]; exact hO, hR, rfl, hnd⟩
      have ya := Y.at.1
      have yb := Y.at.2
      have za := Z.at.1
      have HM4 : Hid ((mixRows q xss yss t).length = 4) := hl4
      clear hO hR hl4 e
      have OO : ∀ W, Off [w.heap.size] wr W → (∃ u b0, Ending.returned (.agg #[.int .i64 q, .slice po 4 co]) = .returned u ∧ OwMirror W u ⟨q, mixRows q xss yss t⟩ b0 ∧ (∀ y ∈ b0, w.heap.size ≤ y) ∧ Below w.heap.size w W) := fun W OO => ⟨_, _, rfl, ⟨po, co, by rw [HM4.out], by rw [HM4.out]; exact hM.off OO (fun x hx hm => by have := hgt x hx; simp at hm; omega)⟩, fun y hy => by have := hgt y hy; omega, B.trans (OO.toBelow B.size (by simp))⟩
      go_wp2
      exact bodyPost_ret (v := .agg #[.int .i64 q, .slice po 4 co]) (by simp [results, Tryz.results65, go_sem, ya]) rfl (OO _ (by repeat (first | exact Off.refl _ _ | refine Off.setCell ?_ _ _ (by simp))))
end Go.Proofs.YtepobckhfodngaoGreat
