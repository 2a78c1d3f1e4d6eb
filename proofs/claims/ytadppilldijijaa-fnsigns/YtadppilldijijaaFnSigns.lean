/-
  FnSigns answers true whatever bytes it draws from: an element is read back from its sign, and from its bits.
-/
import Derived.Test.YtadppilldijijaaDraw1
import Derived.Test.YtadppilldijijaaLw
import Derived.Test.YtadppilldijijaaFrom
import Derived.Deep.RegionHeld3
import Derived.Deep.CutRange
import Derived.Deep.Cut
import Derived.Deep.RegionWith
import Derived.ShutString
import Derived.ChangeOld
import Derived.Below
namespace Go.Proofs.Ytadppilldijijaa.fnSigns
open Go.ChangeShapes Go.WideShapes Go.ChangeAt Go.RowKit
open Go.ChangeMaps (open_string shut_string)
set_option linter.unusedVariables false

theorem own : ownKnob Try.prog.godebug = none := by kernel_rfl
theorem laidOut : laidOutB Try.prog = true := by kernel_rfl

theorem bits_back (xs : List Int) (h : ∀ x ∈ xs, 0 ≤ x ∧ x ≤ 1) : bitsN (bitsVal xs) xs.length = xs := by
  induction xs with
  | nil => rfl
  | cons x r ih =>
    have hx := h x (by simp)
    have e1 : bitsVal (x :: r) % 2 = x := by show (x + 2 * bitsVal r) % 2 = x; omega
    have e2 : bitsVal (x :: r) / 2 = bitsVal r := by show (x + 2 * bitsVal r) / 2 = bitsVal r; omega
    rw [List.length_cons, bitsN, e1, e2, ih (fun y hy => h y (by simp [hy]))]
theorem bits_ok (v : Int) (n : Nat) : okBits (bitsN v n) := by
  rw [← okBits_all, List.all_eq_true]
  induction n generalizing v with
  | zero => intro x hx; cases hx
  | succ n ih =>
    intro x hx
    rw [bitsN, List.mem_cons] at hx
    rcases hx with rfl | hx
    · simp; omega
    · exact ih _ x hx
theorem val_back (v : Int) (h : 0 ≤ v) (h' : v ≤ 255) : bitsVal (bitsN v 8) = v := by
  have k : ∀ n : Fin 256, bitsVal (bitsN ((n.val : Nat) : Int) 8) = ((n.val : Nat) : Int) := by decide +kernel
  have := k ⟨v.toNat, by omega⟩
  simp only [Int.toNat_of_nonneg h] at this
  exact this
theorem top_bit (v : Int) (h : 0 ≤ v) (h' : v ≤ 255) : (bitsN v 8).getD 7 0 = if v < 128 then 0 else 1 := by
  have k : ∀ n : Fin 256, (bitsN ((n.val : Nat) : Int) 8).getD 7 0 = if ((n.val : Nat) : Int) < 128 then 0 else 1 := by decide +kernel
  have := k ⟨v.toNat, by omega⟩
  simp only [Int.toNat_of_nonneg h] at this
  exact this
theorem from_back (v : Int) (h : 0 ≤ v) (h' : v ≤ 255) : fromB (bitsN v 8) = (0, v) := by
  rw [fromB_ok _ (bitsN_length v 8) (bits_ok v 8), val_back v h h']
theorem from_bits (xs : List Int) (h : (fromB xs).1 = 0) : xs.length = 8 ∧ okBits xs ∧ (fromB xs).2 = bitsVal xs ∧ bitsL (bitsVal xs) = xs := by
  by_cases h1 : xs.length = 8
  · by_cases h2 : okBits xs
    · have r := bitsVal_le xs h1 h2 0 (by omega)
      rw [List.drop_zero] at r
      refine ⟨h1, h2, by rw [fromB_ok xs h1 h2], ?_⟩
      unfold bitsL
      rw [if_pos r]
      have := bits_back xs (fun x hx => by
        obtain ⟨j, hj, rfl⟩ := List.getElem_of_mem hx
        have := h2 j hj
        simpa [hj] using this)
      rw [h1] at this
      exact this
    · rw [fromB_bad xs h1 h2] at h; simp at h
  · rw [fromB_many xs h1] at h; simp at h
theorem sign_back (n : Int) (h : roC n = 0) : sgV (roV n) = n := by
  rcases ro_cases n with k | k | ⟨k1, k2⟩ | ⟨k1, k2⟩
  · rw [(ro_out (.inl k)).1] at h; simp at h
  · rw [(ro_out (.inr k)).1] at h; simp at h
  · rw [(ro_low k1 k2).2, (sg_high (by omega) (by omega)).2]; omega
  · rw [(ro_high k1 k2).2, (sg_low (by omega) (by omega)).2]
theorem ring_back (v : Int) (h : 0 ≤ v) (h' : v ≤ 255) : roV (sgV v) = v := by
  rcases (show v < 128 ∨ 128 ≤ v by omega) with k | k
  · rw [(sg_low h k).2, (ro_high (by omega) (by omega)).2]
  · rw [(sg_high k h').2, (ro_low (by omega) (by omega)).2]; omega
theorem two_keep {w w' : World} {a b : Addr} {s t : Value} (h : w.cell? a = some s ∧ w.cell? b = some t) (hb : Below w.heap.size w w') : w'.cell? a = some s ∧ w'.cell? b = some t :=
  ⟨kcell h.1 hb, kcell h.2 hb⟩
theorem three_keep {w w' : World} {a b c : Addr} {s t u : Value} (h : w.cell? a = some s ∧ w.cell? b = some t ∧ w.cell? c = some u) (hb : Below w.heap.size w w') : w'.cell? a = some s ∧ w'.cell? b = some t ∧ w'.cell? c = some u :=
  ⟨kcell h.1 hb, kcell h.2.1 hb, kcell h.2.2 hb⟩
theorem field_L (x y : Value) (w : World) : (Instr.field 38 (.agg #[x, y]) 1).run Try.prog w = .ok y w := by kernel_rfl
theorem field_K (x y : Value) (w : World) : (Instr.field 38 (.agg #[x, y]) 0).run Try.prog w = .ok x w := by kernel_rfl
set_option maxHeartbeats 8000000 in
set_option maxRecDepth 100000 in
theorem walk (a0 : Option Addr) (len0 cap0 : Nat) (z0 : List Int) (w : World) (w0 : IsRow .u8 w a0 len0 cap0 z0) :
    Calls Try.prog 4 #[.slice a0 len0 cap0] w fun e w' => e = .returned (.bool true) ∧ Below w.heap.size w w' := by
  obtain ⟨zs, rfl, hr, hw⟩ := w0.reads
  clear w0
  have hby := bytes_of hw
  clear hw
  by_cases hl : 1048576 < zs.length
  · go_enter Try.func4, Try.ntmps4
    go_wp2_with fail
    refine (lwBig_yes _ _ _ _ hl).mono ?_
    rintro e w' ⟨rfl, rfl⟩
    go_wp2
    go_ret
    exact ⟨rfl, Below.refl _ _⟩
  · have hl' : zs.length ≤ 1048576 := by omega
    have fd0 := field_0
    have fd1 := field_1
    have fdL := field_L
    have fdK := field_K
    go_enter Try.func4, Try.ntmps4
    go_wp2_with fail
    refine (lwBig_no _ _ _ _ hl').mono ?_
    rintro e w' ⟨rfl, rfl⟩
    go_wp2_with fail
    refine (spec_DrawRingOf a0 cap0 zs w hr hl' hby).mono ?_
    rintro e w1 ⟨n, rfl, hn, hb1⟩
    go_wp2_with fail
    refine (impl_RingOf _ _).mono ?_
    rintro e w2 ⟨rfl, hb2⟩
    have R := Blk.new w2 27 #[.int .i64 (roC n), .int .i64 (roV n)]
    have q2 : Below w.heap.size w (w2.alloc (.cells #[.int .i64 (roC n), .int .i64 (roV n)] 27)) := (by have zz0 := (hb2).size; (try simp at zz0); have zz1 := (hb1).size; (try simp at zz1); repeat (first | exact Below.refl _ _ | refine Below.drew ?_ | refine below_drewN ?_ _ | refine Below.setCell ?_ (by first | omega | (simp; done) | (simp; omega)) _ | refine Below.alloc ?_ (by first | omega | (simp; done) | (simp; omega)) _ | refine bcall ?_ hb2 (by first | omega | (simp; done) | (simp; omega)) | refine bcall ?_ hb1 (by first | omega | (simp; done) | (simp; omega))))
    go_upto_region 5 with fail
    generalize w2.alloc (.cells #[.int .i64 (roC n), .int .i64 (roV n)] 27) = W at *
    generalize w2.heap.size = gR at *
    clear hb1 hb2
    go_cut [34] from 16 to 34 (fun s wx => s = .bool false ∧ Below w.heap.size w wx)
    case first =>
      have hS0 : W.cell? ⟨gR, 0, none⟩ = some (.int .i64 (roC n)) ∧ W.cell? ⟨gR, 1, none⟩ = some (.int .i64 (roV n)) := ⟨R.at.1 0, R.at.1 1⟩
      have K1 := fun w => spec_RingOf n w
      have K2 := fun w => impl_SignedOf (roV n) w
      by_cases hz : roC n = 0
      · rw [sign_back n hz] at K2
        rw [hz] at K1 hS0
        clear hz R hr hby
        generalize roV n = y at *
        have K1h := hide K1
        have K2h := hide K2
        clear K1 K2
        go_region_held3 (fun w' => w'.cell? ⟨gR, 0, none⟩ = some (.int .i64 0) ∧ w'.cell? ⟨gR, 1, none⟩ = some (.int .i64 y)) (first | exact hS0 | exact hS1 | exact hS2) (first | (go_at_call 19; refine (unhide K1h _).mono ?_; rintro e v1 ⟨rfl, k1⟩; have hS1 := two_keep (w := W.drew) hS0 k1) | (go_at_call 20; refine (unhide K2h _).mono ?_; rintro e v2 ⟨rfl, k2⟩; have hS2 := two_keep hS1 k2))
        go_wp2_with fail
        go_meet
        exact ⟨rfl, (by have zz0 := (k2).size; (try simp at zz0); have zz1 := (k1).size; (try simp at zz1); have zz2 := (q2).size; (try simp at zz2); repeat (first | exact Below.refl _ _ | refine Below.drew ?_ | refine below_drewN ?_ _ | refine Below.setCell ?_ (by first | omega | (simp; done) | (simp; omega)) _ | refine Below.alloc ?_ (by first | omega | (simp; done) | (simp; omega)) _ | refine bcall ?_ k2 (by first | omega | (simp; done) | (simp; omega)) | refine bcall ?_ k1 (by first | omega | (simp; done) | (simp; omega)) | refine bcall ?_ q2 (by first | omega | (simp; done) | (simp; omega))))⟩
      · have h3 : roC n = 3 := by
          unfold roC at hz ⊢
          split at hz
          · exact absurd rfl hz
          · rw [if_neg (by assumption)]
        rw [h3] at K1 hS0
        clear hz h3 R hr hby K2
        generalize roV n = y at *
        have K1h := hide K1
        clear K1
        first | go_region_with (first | (go_at_call 19; refine (unhide K1h _).mono ?_; rintro e v1 ⟨rfl, k1⟩; have hS1 := two_keep (w := W.drew) hS0 k1; have a1 := hS1.1; have a2 := hS1.2)) | fail
        all_goals
          go_wp2_with fail
          go_meet
          exact ⟨rfl, (by have zz0 := (k1).size; (try simp at zz0); have zz1 := (q2).size; (try simp at zz1); repeat (first | exact Below.refl _ _ | refine Below.drew ?_ | refine below_drewN ?_ _ | refine Below.setCell ?_ (by first | omega | (simp; done) | (simp; omega)) _ | refine Below.alloc ?_ (by first | omega | (simp; done) | (simp; omega)) _ | refine bcall ?_ k1 (by first | omega | (simp; done) | (simp; omega)) | refine bcall ?_ q2 (by first | omega | (simp; done) | (simp; omega))))⟩
    case rest =>
      obtain ⟨rfl, hA⟩ := hcut
      clear R q2
      go_wp2_with fail
      refine (spec_DrawFromBits a0 cap0 zs _ (hr.below hA) hl' hby).mono ?_
      rintro e w3 ⟨p, k, c, xs, rfl, hR3, hb3⟩
      have qA3 := bcall hA hb3 hA.size
      go_wp2_with fail
      refine (impl_FromBits _ xs _ hR3).mono ?_
      rintro e w4 ⟨rfl, hb4⟩
      have F := Blk.new w4 27 #[.int .i64 (fromB xs).1, .int .i64 (fromB xs).2]
      have q4 : Below w.heap.size w (w4.alloc (.cells #[.int .i64 (fromB xs).1, .int .i64 (fromB xs).2] 27)) := by
        have z := qA3.size
        exact (by have zz0 := (hb4).size; (try simp at zz0); have zz1 := (qA3).size; (try simp at zz1); repeat (first | exact Below.refl _ _ | refine Below.drew ?_ | refine below_drewN ?_ _ | refine Below.setCell ?_ (by first | omega | (simp; done) | (simp; omega)) _ | refine Below.alloc ?_ (by first | omega | (simp; done) | (simp; omega)) _ | refine bcall ?_ hb4 (by first | omega | (simp; done) | (simp; omega)) | refine bcall ?_ qA3 (by first | omega | (simp; done) | (simp; omega))))
      have hR4 := (hR3.below hb4).below ((Below.refl _ _).alloc (Nat.le_refl _) (.cells #[.int .i64 (fromB xs).1, .int .i64 (fromB xs).2] 27))
      go_upto_region 9 with fail
      generalize w4.alloc (.cells #[.int .i64 (fromB xs).1, .int .i64 (fromB xs).2] 27) = W at *
      generalize w4.heap.size = gF at *
      clear hA hb3 qA3 hb4 hR3
      go_cut [58] from 39 to 58 (fun s wx => s = .bool false ∧ Below w.heap.size w wx)
      case first =>
        have hS0 : W.cell? ⟨gF, 0, none⟩ = some (.int .i64 (fromB xs).1) ∧ W.cell? ⟨gF, 1, none⟩ = some (.int .i64 (fromB xs).2) := ⟨F.at.1 0, F.at.1 1⟩
        have K1 := fun (w : World) (h : Reads w .i64 (.slice p k c) xs) => spec_FromBits (.slice p k c) xs w h
        clear F hr hby
        by_cases hz : (fromB xs).1 = 0
        · obtain ⟨_, _, e2, e3⟩ := from_bits xs hz
          have K2 := fun w => impl_BitsOf (bitsVal xs) w
          rw [e2] at hS0 K1
          rw [hz] at hS0 K1
          rw [e3] at K2
          clear hz e2 e3
          generalize bitsVal xs = y at *
          have K1h := hide K1
          have K2h := hide K2
          clear K1 K2
          go_region_held3 (fun w' => w'.cell? ⟨gF, 0, none⟩ = some (.int .i64 0) ∧ w'.cell? ⟨gF, 1, none⟩ = some (.int .i64 y)) (first | exact hS0 | exact hS1 | exact hS2 | exact hS3) (first | (go_at_call 23; refine (unhide K1h W.drew hR4).mono ?_; rintro e v1 ⟨rfl, k1⟩; have hS1 := two_keep (w := W.drew) hS0 k1; have hR5 := hR4.below (w := W.drew) k1) | (go_at_call 25; refine (unhide K2h _).mono ?_; rintro e v2 ⟨lv, bs, rfl, i2, g2, k2⟩; have hS2 := two_keep hS1 k2; have hR6 := hR5.below k2; have hR7 := Own.reads i2) | (go_at_call 24; refine (lwNums_same _ _ xs v2 hR7 hR6).mono ?_; rintro e v3 ⟨rfl, k3⟩; have hS3 := two_keep hS2 k3))
          go_wp2_with fail
          go_meet
          exact ⟨rfl, (by have zz0 := (k3).size; (try simp at zz0); have zz1 := (k2).size; (try simp at zz1); have zz2 := (k1).size; (try simp at zz2); have zz3 := (q4).size; (try simp at zz3); repeat (first | exact Below.refl _ _ | refine Below.drew ?_ | refine below_drewN ?_ _ | refine Below.setCell ?_ (by first | omega | (simp; done) | (simp; omega)) _ | refine Below.alloc ?_ (by first | omega | (simp; done) | (simp; omega)) _ | refine bcall ?_ k3 (by first | omega | (simp; done) | (simp; omega)) | refine bcall ?_ k2 (by first | omega | (simp; done) | (simp; omega)) | refine bcall ?_ k1 (by first | omega | (simp; done) | (simp; omega)) | refine bcall ?_ q4 (by first | omega | (simp; done) | (simp; omega))))⟩
        · have h23 : (fromB xs).1 = 2 ∨ (fromB xs).1 = 3 := by
            by_cases h1 : xs.length = 8
            · by_cases h2 : okBits xs
              · rw [fromB_ok xs h1 h2] at hz; exact absurd rfl hz
              · rw [fromB_bad xs h1 h2]; exact .inr rfl
            · rw [fromB_many xs h1]; exact .inl rfl
          clear hz
          generalize (fromB xs).2 = y at *
          rcases h23 with h3 | h3
          all_goals
            rw [h3] at K1 hS0
            clear h3
            have K1h := hide K1
            clear K1
            first | go_region_with (first | (go_at_call 23; refine (unhide K1h W.drew hR4).mono ?_; rintro e v1 ⟨rfl, k1⟩; have hS1 := two_keep (w := W.drew) hS0 k1; have a1 := hS1.1; have a2 := hS1.2)) | fail
            all_goals
              go_wp2_with fail
              go_meet
              exact ⟨rfl, (by have zz0 := (k1).size; (try simp at zz0); have zz1 := (q4).size; (try simp at zz1); repeat (first | exact Below.refl _ _ | refine Below.drew ?_ | refine below_drewN ?_ _ | refine Below.setCell ?_ (by first | omega | (simp; done) | (simp; omega)) _ | refine Below.alloc ?_ (by first | omega | (simp; done) | (simp; omega)) _ | refine bcall ?_ k1 (by first | omega | (simp; done) | (simp; omega)) | refine bcall ?_ q4 (by first | omega | (simp; done) | (simp; omega))))⟩
      case rest =>
        obtain ⟨rfl, hB⟩ := hcut
        clear F q4 hR4
        rename_i wB
        go_wp2_with fail
        refine (spec_DrawBitsOf a0 cap0 zs _ (hr.below hB) hl' hby).mono ?_
        rintro e w5 ⟨v, rfl, hv, hb5⟩
        have q5 := bcall hB hb5 hB.size
        clear hr hby
        go_wp2_with fail
        refine (impl_BitsOf _ _).mono ?_
        rintro e w6 ⟨lv, bs, rfl, i6, g6, hb6⟩
        have q6 := bcall q5 hb6 q5.size
        obtain ⟨lp, lc, rfl⟩ := Own.value i6
        by_cases hv2 : 0 ≤ v ∧ v ≤ 255
        · have e1 : sgC v = 0 := by unfold sgC; rw [if_pos hv2]
          have e2 : bitsL v = bitsN v 8 := by unfold bitsL; rw [if_pos hv2]
          rw [e2] at i6 ⊢
          rw [e1]
          obtain ⟨g, c6, hbs, hsl, hc1, hc2⟩ := Own.shape i6 (by rw [bitsN_length]; omega)
          simp at hsl
          obtain ⟨rfl, rfl⟩ := hsl
          have K3 := fun w => impl_SignedOf v w
          rw [e1] at K3
          have e8 := bitsN_length v 8
          have hR6 := Own.reads i6
          have lg := Own.lt i6 g (by rw [hbs]; simp)
          have top : w6.cell? ⟨g, 7, none⟩ = some (.int .i64 ((bitsN v 8).getD 7 0)) := by
            have := Own.cell i6 7 (by rw [e8]; omega)
            rw [this]
            simp [e8]
          rw [top_bit v hv2.1 hv2.2] at top
          rw [e8] at hR6 ⊢
          clear e1 e2 i6 hbs g6 hc1 hc2 e8 hb5 hb6 q5
          have K3h := hide K3
          clear K3
          go_wp2_with fail
          refine (unhide K3h _).mono ?_
          rintro e w7 ⟨rfl, hb7⟩
          have B7 := ((Blk.new w6 38 #[.int .i64 0, .slice (some ⟨g, 0, none⟩) 8 lc]).keep hb7).alloc (.cells #[.int .i64 0, .int .i64 (sgV v)] 27)
          have S7 := Blk.new w7 27 #[.int .i64 0, .int .i64 (sgV v)]
          have q6' : Below w.heap.size w (w6.alloc (.cells #[.int .i64 0, .slice (some ⟨g, 0, none⟩) 8 lc] 38)) := by
            have z := q6.size
            exact (by have zz0 := (q6).size; (try simp at zz0); repeat (first | exact Below.refl _ _ | refine Below.drew ?_ | refine below_drewN ?_ _ | refine Below.setCell ?_ (by first | omega | (simp; done) | (simp; omega)) _ | refine Below.alloc ?_ (by first | omega | (simp; done) | (simp; omega)) _ | refine bcall ?_ q6 (by first | omega | (simp; done) | (simp; omega))))
          have q7 : Below w.heap.size w (w7.alloc (.cells #[.int .i64 0, .int .i64 (sgV v)] 27)) := by
            have z := q6'.size
            exact (by have zz0 := (hb7).size; (try simp at zz0); have zz1 := (q6').size; (try simp at zz1); repeat (first | exact Below.refl _ _ | refine Below.drew ?_ | refine below_drewN ?_ _ | refine Below.setCell ?_ (by first | omega | (simp; done) | (simp; omega)) _ | refine Below.alloc ?_ (by first | omega | (simp; done) | (simp; omega)) _ | refine bcall ?_ hb7 (by first | omega | (simp; done) | (simp; omega)) | refine bcall ?_ q6' (by first | omega | (simp; done) | (simp; omega))))
          have z6 : w6.heap.size < w7.heap.size := by have := hb7.size; simp at this; omega
          have hA6 : Below w6.heap.size w6 (w7.alloc (.cells #[.int .i64 0, .int .i64 (sgV v)] 27)) := (by have zz0 := (hb7).size; (try simp at zz0); repeat (first | exact Below.refl _ _ | refine Below.drew ?_ | refine below_drewN ?_ _ | refine Below.setCell ?_ (by first | omega | (simp; done) | (simp; omega)) _ | refine Below.alloc ?_ (by first | omega | (simp; done) | (simp; omega)) _ | refine bcall ?_ hb7 (by first | omega | (simp; done) | (simp; omega))))
          have top7 := kcell top hA6
          have hR7 := hR6.below hA6
          go_wp2_with fail
          generalize w7.alloc (.cells #[.int .i64 0, .int .i64 (sgV v)] 27) = W at *
          generalize w6.heap.size = gB at *
          generalize w7.heap.size = gS at *
          clear hb7 q6 q6' top hA6 hR6
          have K1 := fun (w : World) (h : Reads w .i64 (.slice (some ⟨g, 0, none⟩) 8 lc) (bitsN v 8)) => impl_FromBits (.slice (some ⟨g, 0, none⟩) 8 lc) (bitsN v 8) w h
          have K2 := fun w => impl_RingOf (sgV v) w
          rw [from_back v hv2.1 hv2.2] at K1
          rw [ring_back v hv2.1 hv2.2] at K2
          have hS0 : W.cell? ⟨gB, 1, none⟩ = some (.slice (some ⟨g, 0, none⟩) 8 lc) ∧ W.cell? ⟨gS, 1, none⟩ = some (.int .i64 (sgV v)) ∧ W.cell? ⟨g, 7, none⟩ = some (.int .i64 (if v < 128 then 0 else 1)) := ⟨B7.at.1 1, S7.at.1 1, top7⟩
          clear B7 S7 top7
          rcases (show v < 128 ∨ 128 ≤ v by omega) with hlow | hhigh
          · rw [if_pos hlow, (sg_low hv2.1 hlow).2] at hS0
            rw [(sg_low hv2.1 hlow).2] at K2 ⊢
            have hd : decide (v < 0) = false := by simp; omega
            have K1h := hide K1
            have K2h := hide K2
            clear K1 K2 K3h
            go_region_held3 (fun w' => w'.cell? ⟨gB, 1, none⟩ = some (.slice (some ⟨g, 0, none⟩) 8 lc) ∧ w'.cell? ⟨gS, 1, none⟩ = some (.int .i64 v) ∧ w'.cell? ⟨g, 7, none⟩ = some (.int .i64 0)) (first | exact hS0 | exact hS1 | exact hS2) (first | (go_at_call 22; refine (unhide K1h W.drew hR7).mono ?_; rintro e v1 ⟨rfl, k1⟩; have hS1 := three_keep (w := W.drew) hS0 k1) | (go_at_call 18; refine (unhide K2h _).mono ?_; rintro e v2 ⟨rfl, k2⟩; have hS2 := three_keep hS1 k2))
            go_wp2
            go_ret
            exact ⟨rfl, (by have zz0 := (k2).size; (try simp at zz0); have zz1 := (k1).size; (try simp at zz1); have zz2 := (q7).size; (try simp at zz2); repeat (first | exact Below.refl _ _ | refine Below.drew ?_ | refine below_drewN ?_ _ | refine Below.setCell ?_ (by first | omega | (simp; done) | (simp; omega)) _ | refine Below.alloc ?_ (by first | omega | (simp; done) | (simp; omega)) _ | refine bcall ?_ k2 (by first | omega | (simp; done) | (simp; omega)) | refine bcall ?_ k1 (by first | omega | (simp; done) | (simp; omega)) | refine bcall ?_ q7 (by first | omega | (simp; done) | (simp; omega))))⟩
          · rw [if_neg (by omega), (sg_high hhigh hv2.2).2] at hS0
            rw [(sg_high hhigh hv2.2).2] at K2 ⊢
            have hd : decide (v - 256 < 0) = true := by simp; omega
            have K1h := hide K1
            have K2h := hide K2
            clear K1 K2 K3h
            go_region_held3 (fun w' => w'.cell? ⟨gB, 1, none⟩ = some (.slice (some ⟨g, 0, none⟩) 8 lc) ∧ w'.cell? ⟨gS, 1, none⟩ = some (.int .i64 (v - 256)) ∧ w'.cell? ⟨g, 7, none⟩ = some (.int .i64 1)) (first | exact hS0 | exact hS1 | exact hS2) (first | (go_at_call 22; refine (unhide K1h W.drew hR7).mono ?_; rintro e v1 ⟨rfl, k1⟩; have hS1 := three_keep (w := W.drew) hS0 k1) | (go_at_call 18; refine (unhide K2h _).mono ?_; rintro e v2 ⟨rfl, k2⟩; have hS2 := three_keep hS1 k2))
            go_wp2
            go_ret
            exact ⟨rfl, (by have zz0 := (k2).size; (try simp at zz0); have zz1 := (k1).size; (try simp at zz1); have zz2 := (q7).size; (try simp at zz2); repeat (first | exact Below.refl _ _ | refine Below.drew ?_ | refine below_drewN ?_ _ | refine Below.setCell ?_ (by first | omega | (simp; done) | (simp; omega)) _ | refine Below.alloc ?_ (by first | omega | (simp; done) | (simp; omega)) _ | refine bcall ?_ k2 (by first | omega | (simp; done) | (simp; omega)) | refine bcall ?_ k1 (by first | omega | (simp; done) | (simp; omega)) | refine bcall ?_ q7 (by first | omega | (simp; done) | (simp; omega))))⟩
        · have e1 : sgC v = 3 := by unfold sgC; rw [if_neg hv2]
          have K1 := fun w => spec_BitsOf v w
          have K2 := fun w => impl_SignedOf v w
          rw [e1] at K1 K2 ⊢
          clear e1 hb5 hb6 q5 i6 g6
          have K1h := hide K1
          have K2h := hide K2
          clear K1 K2
          have B6 := Blk.new w6 38 #[.int .i64 3, .slice lp (bitsL v).length lc]
          have q7 : Below w.heap.size w (w6.alloc (.cells #[.int .i64 3, .slice lp (bitsL v).length lc] 38)) := by
            have z := q6.size
            exact (by have zz0 := (q6).size; (try simp at zz0); repeat (first | exact Below.refl _ _ | refine Below.drew ?_ | refine below_drewN ?_ _ | refine Below.setCell ?_ (by first | omega | (simp; done) | (simp; omega)) _ | refine Below.alloc ?_ (by first | omega | (simp; done) | (simp; omega)) _ | refine bcall ?_ q6 (by first | omega | (simp; done) | (simp; omega))))
          go_wp2_with fail
          generalize w6.alloc (.cells #[.int .i64 3, .slice lp (bitsL v).length lc] 38) = W at *
          generalize w6.heap.size = gB at *
          have hS0 : W.cell? ⟨gB, 0, none⟩ = some (.int .i64 3) := B6.at.1 0
          clear B6 q6
          go_region_held3 (fun w' => w'.cell? ⟨gB, 0, none⟩ = some (.int .i64 3)) (first | exact hS0 | exact hS1 | exact hS2) (first | (go_at_call 27; refine (unhide K1h _).mono ?_; rintro e v1 ⟨l1, b1, rfl, _, _, k1⟩; have hS1 := kcell (w := W.drew) hS0 k1) | (go_at_call 20; refine (unhide K2h _).mono ?_; rintro e v2 ⟨rfl, k2⟩; have hS2 := kcell hS1 k2))
          go_wp2
          go_ret
          exact ⟨rfl, (by have zz0 := (k2).size; (try simp at zz0); have zz1 := (k1).size; (try simp at zz1); have zz2 := (q7).size; (try simp at zz2); repeat (first | exact Below.refl _ _ | refine Below.drew ?_ | refine below_drewN ?_ _ | refine Below.setCell ?_ (by first | omega | (simp; done) | (simp; omega)) _ | refine Below.alloc ?_ (by first | omega | (simp; done) | (simp; omega)) _ | refine bcall ?_ k2 (by first | omega | (simp; done) | (simp; omega)) | refine bcall ?_ k1 (by first | omega | (simp; done) | (simp; omega)) | refine bcall ?_ q7 (by first | omega | (simp; done) | (simp; omega))))⟩

/-! the row's step -/
set_option maxRecDepth 100000 in
theorem lifted (os : Os) (started : os.Started) (H : Type) (enc : TypeId × Value → H) :
    ReturnsInHanded {} Try.checked os 4 .any (Rows.fnSignsSpec.pre6 enc Try.prog Try.f4 Rows.fnSignsRow.domain false) (Rows.fnSignsSpec.post enc Try.prog Try.f4 false true false false) := by
  refine returnsInHanded_of_change (C := Try.checked) own started (by kernel_rfl) Try.func4
    (ChangeSpec.witness6 (enc := enc) (C := Try.checked) false ⟨#[], #[.slice none 0 0], []⟩ 8 (by kernel_rfl) (by kernel_rfl) (by kernel_rfl) (by kernel_rfl)) ?_
  intro W base args ds gs before hval0 hW hcnd _
  have hval : ∀ (j : Nat) t v, Try.f4.params[j]? = some t → args[j]? = some v → Value.okWide Try.prog W .any base t v := hval0
  have hW' := hW
  obtain ⟨p, q, hA0, hV, rfl, hfz, hnd⟩ := hW
  have hA : DataW.TrodAll enc Try.prog W 0 (fun _ => true) true Try.f4.params.toList args.toList ds p := hA0
  rw [Try.params4] at hA hval
  obtain ⟨v0, vs0, d0, ds0, p0, q0, hargs, rfl, rfl, h0, r0⟩ := trodAll_cons hA
  obtain ⟨rfl, rfl, rfl⟩ := trodAll_nil r0
  obtain rfl : args = #[v0] := by cases args; simp_all
  obtain ⟨rfl, rfl⟩ := trodVars_none hV
  obtain ⟨a0, len0, cap0, rfl⟩ := okWide_slice Try.underlying22 (hval 0 22 v0 rfl rfl)
  have k0 := h0
  have lt0 : ∀ x ∈ p0, x.block < W.heap.size := by obtain ⟨m, hm⟩ := k0; exact DataW.trod_lt m _ _ _ hm
  obtain ⟨z0, w0⟩ : ∃ zs, IsRow .u8 W a0 len0 cap0 zs := by
    obtain ⟨fuel, hf⟩ := h0
    rcases open_ints Try.underlying22 Try.underlying5 (by kernel_rfl) hf with ⟨hcs, _⟩ | ⟨x, l, c, zs, hcs, _, hl, hm, hz, _, hcell, hwz⟩
    · simp [Value.cells] at hcs
      obtain ⟨rfl, rfl, rfl⟩ := hcs
      exact ⟨[], .inl ⟨rfl, rfl, rfl, rfl⟩⟩
    · simp [Value.cells] at hcs
      obtain ⟨rfl, rfl, rfl⟩ := hcs
      exact ⟨zs, .inr ⟨_, rfl, hl, hm, by simpa using hz, hcell, hwz⟩⟩
  clear hA0 hval0
  refine (walk a0 len0 cap0 z0 W w0).mono fun e W' ⟨he, bel⟩ => ?_
  subst he
  exact ⟨_, rfl, _, _, _, [], _, [], hW', trodAll_mk1 (shut_bool Try.underlying4 _), (trodAll_cons_mk (Below.trod laidOut (by kernel_rfl) (of_decide_eq_true (by kernel_rfl)) k0 bel lt0) trodAll_mk0), rfl, bel.frame _, fun h => by cases h⟩

theorem over : Rows.fnSignsRow.holds Try.pinned (OpenSpec.ofChange Rows.fnSignsSpec) :=
  OpenClaim.holds_of_wide 4 Try.f4 rfl rfl rfl rfl rfl rfl rfl ⟨rfl, rfl, rfl, rfl, rfl⟩ rfl rfl rfl rfl rfl (by kernel_rfl) Try.func4 (by kernel_rfl)
    (of_decide_eq_true (by kernel_rfl)) (by unfold Func.isWrapper; first | (rw [if_pos (by decide +kernel)]; kernel_rfl) | (rw [if_neg (by decide +kernel)]; exact ⟨rfl, rfl⟩))
    (fun os started H enc _ => lifted os started H enc)

end Go.Proofs.Ytadppilldijijaa.fnSigns
namespace Go.Proofs.Ytadppilldijijaa
theorem fnSigns_holds : Rows.FnSignsSaid := fnSigns.over
#print axioms fnSigns_holds
end Go.Proofs.Ytadppilldijijaa
