/-
  What bits are worth: ValueBits, in the model and in the program.
-/
import Derived.Test.YtbmemdgeohnpnanMrS
import Derived.Test.YtbmemdgeohnpnanMirT
import Derived.Test.YtbmemdgeohnpnanMirV
import Derived.Test.YtbmemdgeohnpnanFrom
import Derived.Test.YtbmemdgeohnpnanApp
namespace Go.Proofs.Ytbmemdgeohnpnan
open Go.ChangeShapes Go.WideShapes Go.ChangeAt Go.RowKit
set_option linter.unusedVariables false

/-- one bit's code: that of what it is worth, or that it is of another ring -/
def oneB (but : Int) (x : MMirror) : Int := if (valueR x.xQ x.xViews but).xCode = 0 then (if x.xQ = 2 then 0 else 1) else (valueR x.xQ x.xViews but).xCode
def vbC (but : Int) : List MMirror → Int
  | [] => 0
  | x :: r => if oneB but x = 0 then vbC but r else oneB but x
def vbV (but : Int) (xs : List MMirror) : List Int := xs.map fun x => (valueR x.xQ x.xViews but).xValue
def vbitsR (xs : List MMirror) (but : Int) : MIntResult := if xs.length = 8 then (if vbC but xs = 0 then ⟨(fromB (vbV but xs)).1, (fromB (vbV but xs)).2⟩ else ⟨vbC but xs, 0⟩) else ⟨2, 0⟩
theorem vbC_all (but : Int) : ∀ xs : List MMirror, (∀ j, j < xs.length → oneB but (xs.getD j zM) = 0) → vbC but xs = 0
  | [], _ => rfl
  | x :: r, h => by
    have h0 : oneB but x = 0 := h 0 (by simp)
    rw [vbC, if_pos h0]
    exact vbC_all but r (fun j hj => h (j + 1) (by simpa using hj))
theorem vbC_first (but : Int) : ∀ (xs : List MMirror) (k : Nat), k < xs.length → (∀ j, j < k → oneB but (xs.getD j zM) = 0) → oneB but (xs.getD k zM) ≠ 0 → vbC but xs = oneB but (xs.getD k zM)
  | [], k, hk, _, _ => by simp at hk
  | x :: r, 0, _, _, hc => by
    have hc' : oneB but x ≠ 0 := hc
    rw [vbC, if_neg hc']; rfl
  | x :: r, k + 1, hk, h, hc => by
    have h0 : oneB but x = 0 := h 0 (by omega)
    rw [vbC, if_pos h0]
    exact vbC_first but r k (by simpa using hk) (fun j hj => h (j + 1) (by omega)) hc
theorem vbV_take (but : Int) (xs : List MMirror) (k : Nat) (h : k < xs.length) : (vbV but xs).take (k + 1) = (vbV but xs).take k ++ [(valueR (xs.getD k zM).xQ (xs.getD k zM).xViews but).xValue] := by
  rw [List.take_succ_eq_append_getElem (by simpa [vbV] using h)]
  simp [vbV, h]
theorem vb_set (xs : List Int) (k : Nat) (v : Int) (hk : k < 8) (hl : 8 ≤ xs.length) (hv : xs.take (k + 1) = xs.take k ++ [v]) : ((xs.take k ++ List.replicate (8 - k) 0).set k v) = xs.take (k + 1) ++ List.replicate (8 - (k + 1)) 0 := by
  rw [hv]
  have e : List.replicate (8 - k) (0 : Int) = 0 :: List.replicate (8 - (k + 1)) 0 := by
    rw [show 8 - k = (8 - (k + 1)) + 1 by omega, List.replicate_succ]
  have hl' : (xs.take k).length = k := by rw [List.length_take]; omega
  rw [e, List.set_append_right _ _ (by omega), hl', Nat.sub_self, List.set_cons_zero, List.append_assoc]
  rfl
theorem vbitsR_many {xs : List MMirror} {but : Int} (h : xs.length ≠ 8) : vbitsR xs but = ⟨2, 0⟩ := if_neg h
theorem vbitsR_bad {xs : List MMirror} {but : Int} (h : xs.length = 8) (k : vbC but xs ≠ 0) : vbitsR xs but = ⟨vbC but xs, 0⟩ := by unfold vbitsR; rw [if_pos h, if_neg k]
theorem vbitsR_ok {xs : List MMirror} {but : Int} (h : xs.length = 8) (k : vbC but xs = 0) : vbitsR xs but = ⟨(fromB (vbV but xs)).1, (fromB (vbV but xs)).2⟩ := by unfold vbitsR; rw [if_pos h, if_pos k]
theorem oneB_code {but : Int} {x : MMirror} (h : (valueR x.xQ x.xViews but).xCode ≠ 0) : oneB but x = (valueR x.xQ x.xViews but).xCode := if_neg h
theorem oneB_form {but : Int} {x : MMirror} (h : (valueR x.xQ x.xViews but).xCode = 0) (k : x.xQ ≠ 2) : oneB but x = 1 := by unfold oneB; rw [if_pos h, if_neg k]
theorem oneB_ok {but : Int} {x : MMirror} (h : (valueR x.xQ x.xViews but).xCode = 0) (k : x.xQ = 2) : oneB but x = 0 := by unfold oneB; rw [if_pos h, if_pos k]
theorem valueR_bad0 {q : Int} {xss : List (List Int)} {but : Int} (h : (valueR q xss but).xCode ≠ 0) : (valueR q xss but).xValue = 0 := by
  unfold valueR at h ⊢
  split
  · split
    · split
      · rename_i h1 h2 h3
        rw [if_pos h1, if_pos h2, if_pos h3] at h
        exact absurd rfl h
      · rfl
    · rfl
  · rfl
set_option maxHeartbeats 4000000 in
set_option maxRecDepth 100000 in
theorem impl_ValueBits (v : Value) (xs : List MMirror) (but : Int) (w : World) (hv : RdMirrorS w v xs) :
    Calls Try.prog 17 #[v, .int .i64 but] w fun e w' => e = .returned (.agg #[.int .i64 (vbitsR xs but).xCode, .int .i64 (vbitsR xs but).xValue]) ∧ Below w.heap.size w w' := by
  obtain ⟨i1, gi, gz0, gz1, gz2⟩ := info_parts Try.infoI
  obtain ⟨a, ca, rfl, hm, hA⟩ := hv
  have B0 : Below w.heap.size w (w.alloc (.cells #[.int .i64 0, .int .i64 0] 40)) := (by repeat (first | exact Below.refl _ _ | refine Below.drew ?_ | refine below_drewN ?_ _ | refine Below.setCell ?_ (by first | omega | (simp; done) | (simp; omega)) _ | refine Below.alloc ?_ (by first | omega | (simp; done) | (simp; omega)) _))
  have Y0 := Blk.new w 40 #[.int .i64 0, .int .i64 0]
  by_cases h8 : xs.length = 8
  · have HN : Hid (xs.length = 8) := h8
    have HVL : Hid ((vbV but xs).length = 8) := by show _ = _; simp [vbV, h8]
    have KO := fun W (x : MMirror) p c h => impl_ValueOf (.agg #[.int .i64 x.xQ, .slice p x.xViews.length c]) x but W h
    rw [h8]
    clear h8 hm
    go_enter Try.func17, Try.ntmps17
    go_wp2_with (at_make; refine wpList_make_full _ rfl _ _ 66 rfl w.heap.size 2 i1 (.int .i64 0) 1 Try.underlying66 gi gz0 gz1 _ _ _ _ 8 rfl rfl rfl rfl (by rw [gz2]; omega) (by decide) (by simp) ?_)
    intro w1 hown hgrow
    have B1 : Below w.heap.size w w1 := B0.grown hgrow B0.size (fun k hk => by cases hk)
    have Y1 : Blk w1 w.heap.size 40 #[.int .i64 0, .int .i64 0] := Y0.keep ((Below.refl _ _).grown hgrow (Nat.le_refl _) (fun k hk => by cases hk))
    have I1 : Own w1 2 1 (.slice (some ⟨w.heap.size + 1, 0, none⟩) 8 8) 8 (((vbV but xs).take 0 ++ List.replicate (8 - 0) 0).map (Value.int .i64)) [w.heap.size + 1] := by
      obtain ⟨bs, h1, h2⟩ := Own.of_owns hown
      have hbs : bs = [w.heap.size + 1] := by
        rcases h1.2 with ⟨k, _⟩ | ⟨g', cap', cur, rfl, k, _⟩
        · cases k
        · simp at k; rw [k.1]
      rw [hbs] at h1
      simpa [toList_madeCells_one] using h1
    clear hown hgrow B0 Y0
    go_wp2
    go_loopw [16] (fun i wr => ∃ k : Nat, k ≤ 8 ∧ i = .int .i64 k ∧ Blk wr w.heap.size 40 #[.int .i64 0, .int .i64 0] ∧ Own wr 2 1 (.slice (some ⟨w.heap.size + 1, 0, none⟩) 8 8) 8 (((vbV but xs).take k ++ List.replicate (8 - k) 0).map (Value.int .i64)) [w.heap.size + 1] ∧ Below w.heap.size w wr ∧ Hid (∀ j, j < k → oneB but (xs.getD j zM) = 0)) (fun i _ => 8 - (intOf i).toNat)
    case atStart => exact ⟨0, Nat.zero_le _, rfl, Y1, I1, B1, fun j hj => by omega⟩
    case round =>
      clear Y1 I1 B1
      obtain ⟨k, hk, rfl, Y, hown, hbel, HC⟩ := hrel
      by_cases hlt : k < 8
      · obtain ⟨b, o, rfl, hlt0, cA⟩ := hA (by intro h; have := HN.out; rw [h] at this; simp at this)
        obtain ⟨p, c, c0, c1, hr⟩ := cA k (by rw [HN.out]; exact hlt)
        have c0' := (hbel.cell (p := ⟨b, o + k * 2, none⟩) hlt0).trans c0
        have c1' := (hbel.cell (p := ⟨b, o + k * 2 + 1, none⟩) hlt0).trans c1
        have hr' := hr.below hbel
        have HTK : Hid ((vbV but xs).take (k + 1) = (vbV but xs).take k ++ [(valueR (xs.getD k zM).xQ (xs.getD k zM).xViews but).xValue]) := vbV_take but xs k (by rw [HN.out]; exact hlt)
        have HFC : Hid (oneB but (xs.getD k zM) ≠ 0 → vbC but xs = oneB but (xs.getD k zM)) := fun h => vbC_first but xs k (by rw [HN.out]; exact hlt) HC.out h
        have HNX : Hid (oneB but (xs.getD k zM) = 0 → ∀ j, j < k + 1 → oneB but (xs.getD j zM) = 0) := fun h j hj => by
          rcases Nat.lt_succ_iff_lt_or_eq.1 hj with h' | rfl
          · exact HC.out j h'
          · exact h
        have hi : (k : Int) < 8 := by omega
        have lg := Own.lt hown (w.heap.size + 1) (by simp)
        clear cA c0 c1 hr hA HC
        generalize xs.getD k zM = x at *
        have KX := fun W h => KO W x p c h
        have H0 : Hid ((valueR x.xQ x.xViews but).xCode ≠ 0 → oneB but x = (valueR x.xQ x.xViews but).xCode) := oneB_code
        have H1 : Hid ((valueR x.xQ x.xViews but).xCode = 0 → x.xQ ≠ 2 → oneB but x = 1) := oneB_form
        have H2 : Hid ((valueR x.xQ x.xViews but).xCode = 0 → x.xQ = 2 → oneB but x = 0) := oneB_ok
        generalize valueR x.xQ x.xViews but = R at *
        have HRD : Hid (RdMirror (wr.alloc (.cells #[.int .i64 x.xQ, .slice p x.xViews.length c] 30)) (.agg #[.int .i64 x.xQ, .slice p x.xViews.length c]) x) := ⟨p, c, rfl, hr'.below ((Below.refl _ _).alloc (Nat.le_refl _) _)⟩
        have hA1 : Below wr.heap.size wr (wr.alloc (.cells #[.int .i64 x.xQ, .slice p x.xViews.length c] 30)) := (Below.refl _ _).alloc (Nat.le_refl _) _
        have M0 := Blk.new wr 30 #[.int .i64 x.xQ, .slice p x.xViews.length c]
        clear hr' KO
        go_wp2_with fail
        refine (KX _ HRD.out).mono ?_
        rintro e w2 ⟨u, rfl, rfl, hb2⟩
        have hb12 := hA1.trans (hb2.mono hA1.size)
        have hA2 : Below w2.heap.size w2 (w2.alloc (.cells #[.int .i64 R.xCode, .int .i64 R.xValue] 40)) := (Below.refl _ _).alloc (Nat.le_refl _) _
        have hb123 := hb12.trans (hA2.mono hb12.size)
        have M2 := M0.keep hb2
        have ma := M2.at.1
        have ml := M2.lt
        have Y2 := Y.keep hb123
        have hown2 := Own.keep hown hb123
        have hbel3 := hbel.trans (hb123.mono hbel.size)
        clear hA1 hb2 hb12 hA2 hb123 Y hown hbel KX HRD c0' c1' M0 M2
        by_cases hc : R.xCode = 0
        · have e0 : (R.xCode != 0) = false := by simpa using hc
          by_cases hq : x.xQ = 2
          · have e1 : (x.xQ != 2) = false := by simpa using hq
            have HNC := (show Hid _ from HNX.out (H2.out hc hq))
            clear hc hq HFC HNX H0 H1 H2
            have d0 : ∃ u, (w2.alloc (.cells #[.int .i64 R.xCode, .int .i64 R.xValue] 40)).cell? ⟨w.heap.size + 1, k, none⟩ = some u := ⟨_, (Own.cell hown2 k (by omega)).trans (List.getElem?_eq_getElem (by simp [HVL.out]; omega))⟩
            obtain ⟨u0, d0⟩ := d0
            have f0 : (w2.alloc (.cells #[.int .i64 R.xCode, .int .i64 R.xValue] 40)).frozen? ⟨w.heap.size + 1, k, none⟩ = false := Own.frozen hown2 k
            have hset := Own.set hown2 k (.int .i64 R.xValue)
            rw [← List.map_set, vb_set (vbV but xs) k R.xValue hlt (by rw [HVL.out]; omega) HTK.out] at hset
            have hoff : Off [w.heap.size + 1] (w2.alloc (.cells #[.int .i64 R.xCode, .int .i64 R.xValue] 40)) ((w2.alloc (.cells #[.int .i64 R.xCode, .int .i64 R.xValue] 40)).setCell ⟨w.heap.size + 1, k, none⟩ (.int .i64 R.xValue)) := (Off.refl _ _).setCell _ _ (by simp)
            have Y3 := Y2.off hoff (by simp)
            have hb3 := hbel3.trans (hoff.toBelow hbel3.size (by simp))
            clear hown2 hbel3 hoff Y2
            go_wp2
            go_roundw
            case rel => exact ⟨k + 1, by omega, by go_num, Y3, hset, hb3, HNC⟩
            case measure => simp [intOf]; omega
          · have e1 : (x.xQ != 2) = true := by simpa using hq
            have hone := H1.out hc hq
            have hcx := HFC.out (by rw [hone]; decide)
            have HRES : Hid (vbitsR xs but = ⟨1, 0⟩) := by show _ = _; rw [vbitsR_bad HN.out (by rw [hcx, hone]; decide), hcx, hone]
            clear hc hq hone hcx HFC HNX H0 H1 H2
            go_wp2_with (refine wpList_store_blk rfl 40 _ _ rfl w.heap.size #[.int .i64 1, .int .i64 0] rfl rfl Y2 rfl (by kernel_rfl) (by kernel_rfl) ?_; intro w9 Y9 O9)
            exact bodyPost_ret (v := .agg #[.int .i64 1, .int .i64 0]) (results_blk Try.results17 rfl Y9 Try.underlying40 rfl (by kernel_rfl)) rfl (by rw [HRES.out]; exact ⟨rfl, hbel3.trans (O9.toBelow hbel3.size (by simp))⟩)
        · have e0 : (R.xCode != 0) = true := by simpa using hc
          have hone := H0.out hc
          have hcx := HFC.out (by rw [hone]; exact hc)
          have HRES : Hid (vbitsR xs but = ⟨R.xCode, 0⟩) := by show _ = _; rw [vbitsR_bad HN.out (by rw [hcx, hone]; exact hc), hcx, hone]
          clear hc hone hcx HFC HNX H0 H1 H2
          go_wp2_with (refine wpList_store_blk rfl 40 _ _ rfl w.heap.size #[.int .i64 R.xCode, .int .i64 0] rfl rfl Y2 rfl (by kernel_rfl) (by kernel_rfl) ?_; intro w9 Y9 O9)
          exact bodyPost_ret (v := .agg #[.int .i64 R.xCode, .int .i64 0]) (results_blk Try.results17 rfl Y9 Try.underlying40 rfl (by kernel_rfl)) rfl (by rw [HRES.out]; exact ⟨rfl, hbel3.trans (O9.toBelow hbel3.size (by simp))⟩)
      · obtain rfl : k = 8 := by omega
        have e : (vbV but xs).take 8 ++ List.replicate (8 - 8) 0 = vbV but xs := by rw [List.take_of_length_le (by rw [HVL.out]; omega)]; simp
        rw [e] at hown
        have HRES : Hid (vbitsR xs but = ⟨(fromB (vbV but xs)).1, (fromB (vbV but xs)).2⟩) := vbitsR_ok HN.out (vbC_all but xs (by rw [HN.out]; exact HC.out))
        have hR : Reads wr .i64 (.slice (some ⟨w.heap.size + 1, 0, none⟩) 8 8) (vbV but xs) := Own.reads (by rw [HVL.out]; exact hown)
        clear hown e HC hA KO
        go_wp2_with fail
        refine (impl_FromBits _ _ _ hR).mono ?_
        rintro e w2 ⟨rfl, hb2⟩
        have Y2 := Y.keep hb2
        have hb3 := hbel.trans (hb2.mono hbel.size)
        clear Y hbel hb2 hR
        go_wp2_with (refine wpList_store_blk rfl 40 _ _ rfl w.heap.size #[.int .i64 (fromB (vbV but xs)).1, .int .i64 (fromB (vbV but xs)).2] rfl rfl Y2 rfl (by kernel_rfl) (by kernel_rfl) ?_; intro w9 Y9 O9)
        exact bodyPost_ret (v := .agg #[.int .i64 (fromB (vbV but xs)).1, .int .i64 (fromB (vbV but xs)).2]) (results_blk Try.results17 rfl Y9 Try.underlying40 rfl (by kernel_rfl)) rfl (by rw [HRES.out]; exact ⟨rfl, hb3.trans (O9.toBelow hb3.size (by simp))⟩)
  · rw [vbitsR_many h8]
    have e : ((xs.length : Int) != 8) = true := by simp; omega
    generalize xs.length = n at *
    clear hA hm
    go_enter Try.func17, Try.ntmps17
    go_wp2_with (refine wpList_store_blk rfl 40 _ _ rfl w.heap.size #[.int .i64 2, .int .i64 0] rfl rfl Y0 rfl (by kernel_rfl) (by kernel_rfl) ?_; intro w9 Y9 O9)
    exact bodyPost_ret (v := .agg #[.int .i64 2, .int .i64 0]) (results_blk Try.results17 rfl Y9 Try.underlying40 rfl (by kernel_rfl)) rfl ⟨rfl, B0.trans (O9.toBelow B0.size (by simp))⟩
set_option maxHeartbeats 4000000 in
set_option maxRecDepth 100000 in
theorem spec_ValueBits (v : Value) (xs : List MMirror) (but : Int) (w : World) (hv : RdMirrorS w v xs) :
    Calls Try.prog 15 #[v, .int .i64 but] w fun e w' => e = .returned (.agg #[.int .i64 (vbitsR xs but).xCode, .int .i64 (vbitsR xs but).xValue]) ∧ Below w.heap.size w w' := by
  obtain ⟨i1, gi, gz0, gz1, gz2⟩ := info_parts Try.infoI
  obtain ⟨a, ca, rfl, hm, hA⟩ := hv
  have B0 : Below w.heap.size w (w.alloc (.cells #[.int .i64 0, .int .i64 0] 40)) := (by repeat (first | exact Below.refl _ _ | refine Below.drew ?_ | refine below_drewN ?_ _ | refine Below.setCell ?_ (by first | omega | (simp; done) | (simp; omega)) _ | refine Below.alloc ?_ (by first | omega | (simp; done) | (simp; omega)) _))
  have Y0 := Blk.new w 40 #[.int .i64 0, .int .i64 0]
  by_cases h8 : xs.length = 8
  · have HN : Hid (xs.length = 8) := h8
    have HVL : Hid ((vbV but xs).length = 8) := by show _ = _; simp [vbV, h8]
    have KO := fun W (x : MMirror) p c h => spec_ValueOf (.agg #[.int .i64 x.xQ, .slice p x.xViews.length c]) x but W h
    have I1 : IntsT ((w.alloc (.cells #[.int .i64 0, .int .i64 0] 40)).alloc (.cells #[] 2)) (.slice (some ⟨w.heap.size + 1, 0, none⟩) 0 0) ((vbV but xs).take 0) [w.heap.size + 1] := by simpa [IntsT] using Own.made (w.alloc (.cells #[.int .i64 0, .int .i64 0] 40)) 2 1 #[] 0 (by omega) rfl
    have Y1 := Y0.alloc (.cells #[] 2)
    have B1 := B0.alloc B0.size (.cells #[] 2)
    clear Y0 B0
    rw [h8]
    clear h8 hm
    go_enter Try.func15, Try.ntmps15
    go_wp2
    go_loopw [5, 6] (fun ov i wr => ∃ k : Nat, ∃ bs : List Nat, k ≤ 8 ∧ i = .int .i64 k ∧ Blk wr w.heap.size 40 #[.int .i64 0, .int .i64 0] ∧ IntsT wr ov ((vbV but xs).take k) bs ∧ (∀ y ∈ bs, w.heap.size < y) ∧ Below w.heap.size w wr ∧ Hid (∀ j, j < k → oneB but (xs.getD j zM) = 0)) (fun _ i _ => 8 - (intOf i).toNat)
    case atStart => exact ⟨0, _, Nat.zero_le _, rfl, Y1, I1, by simp, B1, fun j hj => by omega⟩
    case round =>
      clear Y1 I1 B1
      obtain ⟨k, bs, hk, rfl, Y, hI, hbs, hbel, HC⟩ := hrel
      obtain ⟨po, co, rfl⟩ := Own.value hI
      by_cases hlt : k < 8
      · obtain ⟨b, o, rfl, hlt0, cA⟩ := hA (by intro h; have := HN.out; rw [h] at this; simp at this)
        obtain ⟨p, c, c0, c1, hr⟩ := cA k (by rw [HN.out]; exact hlt)
        have c0' := (hbel.cell (p := ⟨b, o + k * 2, none⟩) hlt0).trans c0
        have c1' := (hbel.cell (p := ⟨b, o + k * 2 + 1, none⟩) hlt0).trans c1
        have hr' := hr.below hbel
        have HTK : Hid ((vbV but xs).take (k + 1) = (vbV but xs).take k ++ [(valueR (xs.getD k zM).xQ (xs.getD k zM).xViews but).xValue]) := vbV_take but xs k (by rw [HN.out]; exact hlt)
        have HFC : Hid (oneB but (xs.getD k zM) ≠ 0 → vbC but xs = oneB but (xs.getD k zM)) := fun h => vbC_first but xs k (by rw [HN.out]; exact hlt) HC.out h
        have HNX : Hid (oneB but (xs.getD k zM) = 0 → ∀ j, j < k + 1 → oneB but (xs.getD j zM) = 0) := fun h j hj => by
          rcases Nat.lt_succ_iff_lt_or_eq.1 hj with h' | rfl
          · exact HC.out j h'
          · exact h
        have hi : (k : Int) < 8 := by omega
        have HL : Hid (((vbV but xs).take k).length = k) := by show _ = _; rw [List.length_take, HVL.out]; omega
        have lbs := Own.lt hI
        clear cA c0 c1 hr hA HC
        generalize xs.getD k zM = x at *
        have KX := fun W h => KO W x p c h
        have H0 : Hid ((valueR x.xQ x.xViews but).xCode ≠ 0 → oneB but x = (valueR x.xQ x.xViews but).xCode) := oneB_code
        have H1 : Hid ((valueR x.xQ x.xViews but).xCode = 0 → x.xQ ≠ 2 → oneB but x = 1) := oneB_form
        have H2 : Hid ((valueR x.xQ x.xViews but).xCode = 0 → x.xQ = 2 → oneB but x = 0) := oneB_ok
        have HZ : Hid ((valueR x.xQ x.xViews but).xCode ≠ 0 → (valueR x.xQ x.xViews but).xValue = 0) := valueR_bad0
        generalize valueR x.xQ x.xViews but = R at *
        have HRD : RdMirror wr (.agg #[.int .i64 x.xQ, .slice p x.xViews.length c]) x := ⟨p, c, rfl, hr'⟩
        rw [show ((vbV but xs).take k).length = k from HL.out]
        unfold IntsT at hI
        rw [show ((vbV but xs).take k).length = k from HL.out] at hI
        clear hr' KO
        go_wp2_with fail
        refine (KX _ HRD).mono ?_
        rintro e w2 ⟨u, rfl, rfl, hb2⟩
        have hA2 : Below w2.heap.size w2 (w2.alloc (.cells #[.int .i64 R.xCode, .int .i64 R.xValue] 40)) := (Below.refl _ _).alloc (Nat.le_refl _) _
        have hb123 := hb2.trans (hA2.mono hb2.size)
        have Z2 := Blk.new w2 40 #[.int .i64 R.xCode, .int .i64 R.xValue]
        have c0z := (hb2.cell (p := ⟨b, o + k * 2, none⟩) (Nat.lt_of_lt_of_le hlt0 hbel.size)).trans c0'
        have lbb : b < w2.heap.size := Nat.lt_of_lt_of_le (Nat.lt_of_lt_of_le hlt0 hbel.size) hb2.size
        have Y2 := Y.keep hb123
        have hI2 := Own.keep hI hb123
        have hbel3 := hbel.trans (hb123.mono hbel.size)
        have lw := hb2.size
        clear hb2 hA2 hb123 Y hI hbel KX HRD c0' c1'
        by_cases hc : R.xCode = 0
        · have e0 : (R.xCode != 0) = false := by simpa using hc
          by_cases hq : x.xQ = 2
          · have e1 : (x.xQ != 2) = false := by simpa using hq
            have HNC := (show Hid _ from HNX.out (H2.out hc hq))
            have lz := Own.lt hI2
            clear hc hq HFC HNX H0 H1 H2 HZ
            go_wp2_with (at_builtin; refine wpList_append_Own rfl _ _ 66 rfl 2 i1 (.int .i64 0) 1 8 Try.underlying66 gi gz0 gz1 gz2 rfl (by decide) _ _ _ bs rfl (Own.alloc hI2 _) ⟨w2.heap.size + 1, 0, none⟩ 1 1 [.int .i64 R.xValue] rfl rfl ?c1 ?c2 ?c3 ?c4 ?c5 ?_)
            case c1 => simpa using one_new (Blk.new (w2.alloc (.cells #[.int .i64 R.xCode, .int .i64 R.xValue] 40)) 2 #[.int .i64 R.xValue])
            case c2 => intro u hu; simp at hu; subst hu; rfl
            case c3 => omega
            case c4 => unfold maxLen; omega
            case c5 => omega
            intro g cg w3 hO3 hoff hg3
            have hI3 : IntsT w3 (.slice (some ⟨g, 0, none⟩) (k + 1) cg) ((vbV but xs).take (k + 1)) [g] := by
              rw [HTK.out]
              unfold IntsT
              rw [List.map_append, List.length_append, HL.out, List.map_take]
              exact hO3
            have hb3 : ∀ y ∈ [g], w.heap.size < y := by
              intro y hy
              simp at hy
              subst hy
              rcases hg3 with h | h
              · exact hbs y (by rw [h]; simp)
              · have := hbel3.size; (try simp at h); simp at this; omega
            have Y3 := (Y2.alloc (.cells #[.int .i64 R.xValue] 2)).off hoff (fun hm => by have := hbs _ hm; omega)
            have hb4 := (hbel3.alloc hbel3.size (.cells #[.int .i64 R.xValue] 2)).trans (hoff.toBelow (by have := hbel3.size; simp at this ⊢; omega) (fun y hy => by have := hbs y hy; omega))
            clear hO3 hoff hI2 Y2 hbel3 lbs lz Z2 hbs
            go_wp2
            go_roundw
            case rel => exact ⟨k + 1, [g], by omega, by go_num, Y3, by simpa [HVL.out, HTK.out, HL.out] using hI3, hb3, hb4, HNC⟩
            case measure => simp [intOf]; omega
          · have e1 : (x.xQ != 2) = true := by simpa using hq
            have hone := H1.out hc hq
            have hcx := HFC.out (by rw [hone]; decide)
            have HRES : Hid (vbitsR xs but = ⟨1, 0⟩) := by show _ = _; rw [vbitsR_bad HN.out (by rw [hcx, hone]; decide), hcx, hone]
            clear hc hq hone hcx HFC HNX H0 H1 H2 HZ hI2
            go_wp2_with (refine wpList_store_blk rfl 40 _ _ rfl w.heap.size #[.int .i64 1, .int .i64 0] rfl rfl Y2 rfl (by kernel_rfl) (by kernel_rfl) ?_; intro w9 Y9 O9)
            exact bodyPost_ret (v := .agg #[.int .i64 1, .int .i64 0]) (results_blk Try.results15 rfl Y9 Try.underlying40 rfl (by kernel_rfl)) rfl (by rw [HRES.out]; exact ⟨rfl, hbel3.trans (O9.toBelow hbel3.size (by simp))⟩)
        · have e0 : (R.xCode != 0) = true := by simpa using hc
          have hone := H0.out hc
          have hcx := HFC.out (by rw [hone]; exact hc)
          have hz := HZ.out hc
          have HRES : Hid (vbitsR xs but = ⟨R.xCode, R.xValue⟩) := by show _ = _; rw [vbitsR_bad HN.out (by rw [hcx, hone]; exact hc), hcx, hone, hz]
          clear hc hone hcx HFC HNX H0 H1 H2 HZ hI2 hz
          go_wp2_with (first | (refine wpList_load_blk rfl 40 _ rfl w2.heap.size rfl Z2 Try.underlying40 rfl (by kernel_rfl) ?_) | (refine wpList_store_blk rfl 40 _ _ rfl w.heap.size #[.int .i64 R.xCode, .int .i64 R.xValue] rfl rfl Y2 rfl (by kernel_rfl) (by kernel_rfl) ?_; intro w9 Y9 O9))
          exact bodyPost_ret (v := .agg #[.int .i64 R.xCode, .int .i64 R.xValue]) (results_blk Try.results15 rfl Y9 Try.underlying40 rfl (by kernel_rfl)) rfl (by rw [HRES.out]; exact ⟨rfl, hbel3.trans (O9.toBelow hbel3.size (by simp))⟩)
      · obtain rfl : k = 8 := by omega
        have e : (vbV but xs).take 8 = vbV but xs := List.take_of_length_le (by rw [HVL.out]; omega)
        rw [e] at hI ⊢
        have HRES : Hid (vbitsR xs but = ⟨(fromB (vbV but xs)).1, (fromB (vbV but xs)).2⟩) := vbitsR_ok HN.out (vbC_all but xs (by rw [HN.out]; exact HC.out))
        have hR : Reads wr .i64 (.slice po (vbV but xs).length co) (vbV but xs) := Own.reads hI
        rw [show (vbV but xs).length = 8 from HVL.out] at hR ⊢
        clear hI e HC hA KO
        go_wp2_with fail
        refine (spec_FromBits _ _ _ hR).mono ?_
        rintro e w2 ⟨rfl, hb2⟩
        have Y2 := Y.keep hb2
        have hb3 := hbel.trans (hb2.mono hbel.size)
        clear Y hbel hb2 hR
        go_wp2_with (refine wpList_store_blk rfl 40 _ _ rfl w.heap.size #[.int .i64 (fromB (vbV but xs)).1, .int .i64 (fromB (vbV but xs)).2] rfl rfl Y2 rfl (by kernel_rfl) (by kernel_rfl) ?_; intro w9 Y9 O9)
        exact bodyPost_ret (v := .agg #[.int .i64 (fromB (vbV but xs)).1, .int .i64 (fromB (vbV but xs)).2]) (results_blk Try.results15 rfl Y9 Try.underlying40 rfl (by kernel_rfl)) rfl (by rw [HRES.out]; exact ⟨rfl, hb3.trans (O9.toBelow hb3.size (by simp))⟩)
  · rw [vbitsR_many h8]
    have e : ((xs.length : Int) != 8) = true := by simp; omega
    generalize xs.length = n at *
    clear hA hm
    go_enter Try.func15, Try.ntmps15
    go_wp2_with (refine wpList_store_blk rfl 40 _ _ rfl w.heap.size #[.int .i64 2, .int .i64 0] rfl rfl Y0 rfl (by kernel_rfl) (by kernel_rfl) ?_; intro w9 Y9 O9)
    exact bodyPost_ret (v := .agg #[.int .i64 2, .int .i64 0]) (results_blk Try.results15 rfl Y9 Try.underlying40 rfl (by kernel_rfl)) rfl ⟨rfl, B0.trans (O9.toBelow B0.size (by simp))⟩
end Go.Proofs.Ytbmemdgeohnpnan
