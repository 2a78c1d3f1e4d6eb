/-
  Contracts of chapter 6 of the program: what is told, in a map; what two of three tell.
-/
import Derived.Test.YtbmemdgeohnpnalGreatMajor
import Derived.Test.YtbmemdgeohnpnalGreatApp
import Derived.Maps.OwnSet
import Derived.Maps.OwnOps
import Derived.Recover
namespace Go.Proofs.YtbmemdgeohnpnalGreat
open Go.ChangeShapes Go.WideShapes Go.ChangeAt Go.RowKit
set_option linter.unusedVariables false

/-- what all but 'part' of the first n tell -/
def told4 (part : Nat) (f : Nat → Int) : Nat → List Int
  | 0 => []
  | n + 1 => told4 part f n ++ (if n ≠ part then [f n] else [])
theorem told4_in {part n : Nat} (f : Nat → Int) (h : n ≠ part) : told4 part f (n + 1) = told4 part f n ++ [f n] := by rw [told4, if_pos h]
theorem told4_out {part n : Nat} (f : Nat → Int) (h : n = part) : told4 part f (n + 1) = told4 part f n := by rw [told4, if_neg (by omega), List.append_nil]
theorem told4_len (part : Nat) (f : Nat → Int) : ∀ n, (told4 part f n).length ≤ n
  | 0 => Nat.le_refl _
  | n + 1 => by rw [told4]; have := told4_len part f n; split <;> simp <;> omega
/-- the same as a map's datum -/
def telU (part : Nat) (f : Nat → Int) (n : Nat) : DataW Unit := .map (((List.range n).filter (fun k => decide (k ≠ part))).map fun (k : Nat) => (Lit.int .i64 (k : Int), DataW.lit (Lit.int .i64 (f k))))
theorem four_cases {P : Nat → Prop} (n : Nat) (hn : n < 4) (h0 : P 0) (h1 : P 1) (h2 : P 2) (h3 : P 3) : P n := by
  obtain rfl | rfl | rfl | rfl : n = 0 ∨ n = 1 ∨ n = 2 ∨ n = 3 := by omega
  all_goals assumption
theorem telU_size (part : Nat) (f : Nat → Int) (hp : part < 4) : Go.Maps.size (telU part f 4) = 3 := by
  refine four_cases (P := fun part => Go.Maps.size (telU part f 4) = 3) part hp ?_ ?_ ?_ ?_ <;> rfl
theorem telU_has (part n : Nat) (f : Nat → Int) (hp : part < 4) (hn : n < 4) (h : n ≠ part) : Go.Maps.has (telU part f 4) (.int .i64 (n : Int)) = true := by
  revert h
  refine four_cases (P := fun part => n ≠ part → Go.Maps.has (telU part f 4) (.int .i64 (n : Int)) = true) part hp ?_ ?_ ?_ ?_ <;>
  refine four_cases (P := fun n => n ≠ _ → Go.Maps.has (telU _ f 4) (.int .i64 (n : Int)) = true) n hn ?_ ?_ ?_ ?_ <;> intro h <;> first | rfl | exact absurd rfl h
theorem telU_hasnt (part : Nat) (k : Int) (f : Nat → Int) (hp : part < 4) (h : k < 0 ∨ 3 < k ∨ k = part) : Go.Maps.has (telU part f 4) (.int .i64 k) = false := by
  revert h
  refine four_cases (P := fun part => (k < 0 ∨ 3 < k ∨ k = part) → Go.Maps.has (telU part f 4) (.int .i64 k) = false) part hp ?_ ?_ ?_ ?_ <;> intro h <;>
    (simp [telU, Go.Maps.has, List.range, List.range.loop, Lit.sameKey]; omega)
theorem telU_at (part n : Nat) (f : Nat → Int) (z : DataW Unit) (hp : part < 4) (hn : n < 4) (h : n ≠ part) : (telU part f 4).atKey (.int .i64 (n : Int)) z = .lit (.int .i64 (f n)) := by
  revert h
  refine four_cases (P := fun part => n ≠ part → (telU part f 4).atKey (.int .i64 (n : Int)) z = .lit (.int .i64 (f n))) part hp ?_ ?_ ?_ ?_ <;>
  refine four_cases (P := fun n => n ≠ _ → (telU _ f 4).atKey (.int .i64 (n : Int)) z = .lit (.int .i64 (f n))) n hn ?_ ?_ ?_ ?_ <;> intro h <;> first | rfl | exact absurd rfl h
theorem telU_put (part n : Nat) (f : Nat → Int) (y : Int) (hp : part < 4) (hn : n < 4) (h : n ≠ part) : (telU part f 4).put (.int .i64 (n : Int)) (.lit (.int .i64 y)) = telU part (fun k => if k = n then y else f k) 4 := by
  revert h
  refine four_cases (P := fun part => n ≠ part → (telU part f 4).put (.int .i64 (n : Int)) (.lit (.int .i64 y)) = telU part (fun k => if k = n then y else f k) 4) part hp ?_ ?_ ?_ ?_ <;>
  refine four_cases (P := fun n => n ≠ _ → (telU _ f 4).put (.int .i64 (n : Int)) (.lit (.int .i64 y)) = telU _ (fun k => if k = n then y else f k) 4) n hn ?_ ?_ ?_ ?_ <;> intro h <;> first | rfl | exact absurd rfl h
theorem telU_snoc (part n : Nat) (f : Nat → Int) (hp : part < 4) (hn : n < 4) (h : n ≠ part) : (telU part f n).put (.int .i64 (n : Int)) (.lit (.int .i64 (f n))) = telU part f (n + 1) := by
  revert h
  refine four_cases (P := fun part => n ≠ part → (telU part f n).put (.int .i64 (n : Int)) (.lit (.int .i64 (f n))) = telU part f (n + 1)) part hp ?_ ?_ ?_ ?_ <;>
  refine four_cases (P := fun n => n ≠ _ → (telU _ f n).put (.int .i64 (n : Int)) (.lit (.int .i64 (f n))) = telU _ f (n + 1)) n hn ?_ ?_ ?_ ?_ <;> intro h <;> first | rfl | exact absurd rfl h
theorem telU_skip (part n : Nat) (f : Nat → Int) (h : n = part) : telU part f n = telU part f (n + 1) := by
  unfold telU; rw [List.range_succ, List.filter_append]; simp [h]
/-- block b is the map of what all but 'part' of the first n tell -/
def Tel (w : World) (b part : Nat) (f : Nat → Int) (n m : Nat) : Prop := w.ownsMap Tryz.prog 2 (plainElem (H := Unit) Tryz.prog 2) b m (telU part f n)
theorem keyI : Go.Maps.Keyed Tryz.prog 2 := Go.Maps.int_keyed Tryz.underlying2
theorem zeroI (w : World) : (zeroValue 2).run Tryz.prog w = .ok (.int .i64 0) w := by kernel_rfl
theorem Off.ofGrown {w w' : World} {b : Nat} (h : w.grownBy w' (some b)) : Off [b] w w' := ⟨h.os, h.tape, h.output, h.size, fun k hk hn => h.block k hk (by simpa using hn)⟩
theorem Tel.off {w w' : World} {b part n m : Nat} {f : Nat → Int} {bs : List Nat} (h : Tel w b part f n m) (k : Off bs w w') (hb : b ∉ bs) : Tel w' b part f n m := by
  obtain ⟨es, clock, hb', F, hs, hD⟩ := h
  exact ⟨es, clock, (k.block b (Array.getElem?_eq_some_iff.1 hb').1 hb).trans hb', F, hs, hD⟩
theorem Tel.lt {w : World} {b part n m : Nat} {f : Nat → Int} (h : Tel w b part f n m) : b < w.heap.size := World.ownsMap.lt h
theorem Tel.keep {w w' : World} {b part n m : Nat} {f : Nat → Int} (h : Tel w b part f n m) (k : Below w.heap.size w w') : Tel w' b part f n m := h.off (Off.ofBelow (bs := []) k) (by simp)
theorem Own.made0' (w : World) (e : TypeId) (size : Nat) (cs : Array Value) (cap : Nat) (hm : cap ≤ maxLen) (hs : cs.size = cap * size) : Own (w.alloc (.cells cs e)) e size (.slice (some ⟨w.heap.size, 0, none⟩) 0 cap) 0 [] [w.heap.size] :=
  ⟨by simp, .inr ⟨w.heap.size, cap, cs, rfl, rfl, heap_alloc_new w _, Nat.zero_le _, hm, hs, by simp⟩⟩
theorem lit_inj {x y : Int} (h : (DataW.lit (Lit.int .i64 x) : DataW Unit) = .lit (.int .i64 y)) : x = y := by simpa using h
/-- what two of three tell, or a panic -/
def Agr (m : Int × Int) (e : Ending) : Prop := (m.1 = 0 ∧ e = .returned (.int .i64 m.2)) ∨ (m.1 ≠ 0 ∧ ∃ pv, e = .panicked [{ v := .iface 9 pv, recovered := false }])
set_option maxHeartbeats 4000000 in
set_option maxRecDepth 100000 in
theorem impl_agreed (b part m : Nat) (f : Nat → Int) (w : World) (hp : part < 4) (h : Tel w b part f 4 m) : Calls Tryz.prog 124 #[.map (some b)] w fun e w' => Agr (major (told4 part f 4)) e ∧ Below w.heap.size w w' := by
  have hmk : ∀ w, (Instr.makeSlice 25 (.int .i64 0) (.int .i64 3)).run Tryz.prog w = .ok (.slice (some ⟨w.heap.size, 0, none⟩) 0 3) (w.alloc (.cells #[.int .i64 0, .int .i64 0, .int .i64 0] 2)) := fun w => by kernel_rfl
  obtain ⟨i1, gi, gz0, gz1, gz2⟩ := info_parts Tryz.infoI
  have hsz : Hid (Go.Maps.size (telU part f 4) = 3) := telU_size part f hp
  have I0 : IntsT (w.alloc (.cells #[.int .i64 0, .int .i64 0, .int .i64 0] 2)) (.slice (some ⟨w.heap.size, 0, none⟩) 0 3) [] [w.heap.size] := Own.made0' w 2 1 #[.int .i64 0, .int .i64 0, .int .i64 0] 3 (by decide) rfl
  have T0 : Tel (w.alloc (.cells #[.int .i64 0, .int .i64 0, .int .i64 0] 2)) b part f 4 m := World.ownsMap.alloc h _
  have B0 : Below w.heap.size w (w.alloc (.cells #[.int .i64 0, .int .i64 0, .int .i64 0] 2)) := (by repeat (first | exact Below.refl _ _ | refine Below.drew ?_ | refine below_drewN ?_ _ | refine Below.setCell ?_ (by first | omega | (simp; done) | (simp; omega)) _ | refine Below.alloc ?_ (by first | omega | (simp; done) | (simp; omega)) _))
  have hbl := h.lt
  go_enter Tryz.func124, Tryz.ntmps124
  go_wp2_with (at_len; refine wpList_len_own _ rfl _ 157 rfl 2 2 Tryz.underlying157 _ b m _ rfl h ?_; rw [hsz.out])
  go_loopw [3, 11] (fun o c wr => ∃ n : Nat, ∃ bs : List Nat, n ≤ 4 ∧ c = .int .i64 n ∧ IntsT wr o (told4 part f n) bs ∧ (∀ y ∈ bs, w.heap.size ≤ y) ∧ Tel wr b part f 4 m ∧ Below w.heap.size w wr) (fun _ c _ => 4 - (intOf c).toNat)
  case atStart => exact ⟨0, [w.heap.size], Nat.zero_le _, rfl, I0, by simp, T0, B0⟩
  case round =>
    clear I0 T0 B0
    obtain ⟨n, bs, hn, rfl, hI, hbs, hT, hB⟩ := hrel
    have hlen := told4_len part f n
    obtain ⟨po, co, rfl⟩ := Own.value hI
    by_cases hlt : n < 4
    · have hi : (n : Int) < 4 := by omega
      have hw : (Lit.int .i64 (n : Int)).wf = true := WalkArith.wf_i64 (by omega)
      by_cases h1 : n = part
      · have HN : Hid (told4 part f (n + 1) = told4 part f n) := told4_out f h1
        have HH : Hid (Go.Maps.has (telU part f 4) (.int .i64 (n : Int)) = false) := telU_hasnt part n f hp (.inr (.inr (by omega)))
        clear h1
        go_wp2_with (at_lookup; refine wpList_lookup_own_ok_int _ rfl _ _ 157 rfl 2 2 .i64 keyI Tryz.underlying157 Tryz.underlying2 (zeroI _) b m _ rfl hT _ _ rfl (Go.Maps.keyOf_int_mk Tryz.underlying2 hw) ?_; intro c hat hwc; rw [HH.out])
        go_roundw
        case rel => exact ⟨n + 1, bs, by omega, by go_num, by rw [HN.out]; exact hI, hbs, hT, hB⟩
        case measure => simp [intOf]; omega
      · have HN : Hid (told4 part f (n + 1) = told4 part f n ++ [f n]) := told4_in f h1
        have HH : Hid (Go.Maps.has (telU part f 4) (.int .i64 (n : Int)) = true) := telU_has part n f hp hlt h1
        have HA : Hid ((telU part f 4).atKey (.int .i64 (n : Int)) (.lit (.int .i64 0)) = .lit (.int .i64 (f n))) := telU_at part n f _ hp hlt h1
        clear h1
        have hI1 : Own wr 2 1 (.slice po (told4 part f n).length co) (told4 part f n).length ((told4 part f n).map (Value.int .i64)) bs := hI
        clear hI
        generalize hxs : told4 part f n = xs at *
        have HX : Hid (told4 part f n = xs) := hxs
        clear hxs
        go_wp2_with (first | (at_lookup; refine wpList_lookup_own_ok_int _ rfl _ _ 157 rfl 2 2 .i64 keyI Tryz.underlying157 Tryz.underlying2 (zeroI _) b m _ rfl hT _ _ rfl (Go.Maps.keyOf_int_mk Tryz.underlying2 hw) ?_; intro c hat hwc; rw [HH.out]) | (at_builtin; refine wpList_append_Own rfl _ _ 25 rfl 2 i1 (.int .i64 0) 1 8 Tryz.underlying25 gi gz0 gz1 gz2 rfl (by decide) _ _ _ bs rfl (Own.alloc hI1 _) ⟨wr.heap.size, 0, none⟩ 1 1 [.int .i64 c] rfl rfl ?c1 ?c2 ?c3 ?c4 ?c5 ?_))
        case c1 => exact one_new (Blk.new _ _ _)
        case c2 => intro u hu; simp at hu; subst hu; rfl
        case c3 => omega
        case c4 => unfold maxLen; omega
        case c5 => omega
        intro g cc w3 hO3 hoff hg3
        have hc : f n = c := lit_inj (HA.out.symm.trans hat)
        have hI3 : IntsT w3 (.slice (some ⟨g, 0, none⟩) (xs.length + 1) cc) (told4 part f (n + 1)) [g] := by
          unfold IntsT
          rw [HN.out, hc, List.map_append, List.length_append]
          exact hO3
        have hb3 : ∀ y ∈ [g], w.heap.size ≤ y := by
          intro y hy
          simp at hy
          subst hy
          rcases hg3 with h | h
          · exact hbs y (by rw [h]; simp)
          · have := hB.size; (try simp at h); omega
        have hT3 : Tel w3 b part f 4 m := (show Tel (wr.alloc (.cells #[.int .i64 c] 2)) b part f 4 m from World.ownsMap.alloc hT _).off hoff (fun hm => by have := hbs _ hm; omega)
        have hB3 : Below w.heap.size w w3 := (hB.alloc hB.size (.cells #[.int .i64 c] 2)).trans (hoff.toBelow (hB.alloc hB.size (.cells #[.int .i64 c] 2)).size (fun y hy => by have := hbs y hy; omega))
        clear hO3 hoff hI1 hT hB hat hc
        go_wp2
        go_roundw
        case rel => exact ⟨n + 1, [g], by omega, by go_num, hI3, hb3, hT3, hB3⟩
        case measure => simp [intOf]; omega
    · obtain rfl : n = 4 := by omega
      have hR := Own.reads hI
      clear hI
      have K := fun V h => impl_MajorityOf (.slice po (told4 part f 4).length co) (told4 part f 4) V h
      generalize hxs : told4 part f 4 = xs at *
      have HX : Hid (told4 part f 4 = xs) := hxs
      clear hxs
      by_cases hm : (major xs).1 = 0
      · rw [hm] at K
        have HM : Hid ((major xs).1 = 0) := hm
        clear hm
        go_wp2_with fail
        refine (K _ hR).mono ?_
        rintro e w4 ⟨rfl, hb4⟩
        go_wp2
        go_ret
        exact ⟨by rw [HX.out]; exact .inl ⟨HM.out, rfl⟩, (by have zz0 := (hb4).size; (try simp at zz0); have zz1 := (hB).size; (try simp at zz1); repeat (first | exact Below.refl _ _ | refine Below.drew ?_ | refine below_drewN ?_ _ | refine Below.setCell ?_ (by first | omega | (simp; done) | (simp; omega)) _ | refine Below.alloc ?_ (by first | omega | (simp; done) | (simp; omega)) _ | refine bcall ?_ hb4 (by first | omega | (simp; done) | (simp; omega)) | refine bcall ?_ hB (by first | omega | (simp; done) | (simp; omega))))⟩
      · have hne : ((major xs).1 != 0) = true := by simpa using hm
        have HM : Hid ((major xs).1 ≠ 0) := hm
        clear hm
        generalize hmc : (major xs).1 = mc at K hne
        clear hmc
        go_wp2_with fail
        refine (K _ hR).mono ?_
        rintro e w4 ⟨rfl, hb4⟩
        go_wp2
        exact ⟨rfl, by rw [HX.out]; exact .inr ⟨HM.out, _, rfl⟩, (by have zz0 := (hb4).size; (try simp at zz0); have zz1 := (hB).size; (try simp at zz1); repeat (first | exact Below.refl _ _ | refine Below.drew ?_ | refine below_drewN ?_ _ | refine Below.setCell ?_ (by first | omega | (simp; done) | (simp; omega)) _ | refine Below.alloc ?_ (by first | omega | (simp; done) | (simp; omega)) _ | refine bcall ?_ hb4 (by first | omega | (simp; done) | (simp; omega)) | refine bcall ?_ hB (by first | omega | (simp; done) | (simp; omega))))⟩
end Go.Proofs.YtbmemdgeohnpnalGreat
