/-
  All that is asked of a row of products, in the model.
-/
import Derived.Test.YtepobckhfodngalGreatSpE
import Derived.Deep.QuietTactic
import Derived.BigQuiet
namespace Go.Proofs.YtepobckhfodngalGreat
open Go.ChangeShapes Go.WideShapes Go.ChangeAt Go.RowKit
set_option linter.unusedVariables false

def sameQ (xs ys : List MMirror) : Prop := ∀ j, j < xs.length → (xs.getD j zM).xQ = (xs.getD 0 zM).xQ ∧ (ys.getD j zM).xQ = (xs.getD 0 zM).xQ
instance (xs ys : List MMirror) : Decidable (sameQ xs ys) := by unfold sameQ; infer_instance
def dotCS (x : MNet) (xs ys : List MMirror) : Int := if quietC x = 0 then (if dotM xs ys then (if fltC xs = 0 then (if fltC ys = 0 then (if sameQ xs ys then 0 else 1) else fltC ys) else fltC xs) else 2) else quietC x
theorem dotCS_net {x : MNet} {xs ys : List MMirror} (h : quietC x ≠ 0) : dotCS x xs ys = quietC x := if_neg h
theorem dotCS_many {x : MNet} {xs ys : List MMirror} (h : quietC x = 0) (k : ¬ dotM xs ys) : dotCS x xs ys = 2 := by unfold dotCS; rw [if_pos h, if_neg k]
theorem dotCS_x {x : MNet} {xs ys : List MMirror} (h : quietC x = 0) (k : dotM xs ys) (l : fltC xs ≠ 0) : dotCS x xs ys = fltC xs := by unfold dotCS; rw [if_pos h, if_pos k, if_neg l]
theorem dotCS_y {x : MNet} {xs ys : List MMirror} (h : quietC x = 0) (k : dotM xs ys) (l : fltC xs = 0) (m : fltC ys ≠ 0) : dotCS x xs ys = fltC ys := by unfold dotCS; rw [if_pos h, if_pos k, if_pos l, if_neg m]
theorem dotCS_q {x : MNet} {xs ys : List MMirror} (h : quietC x = 0) (k : dotM xs ys) (l : fltC xs = 0) (m : fltC ys = 0) (n : ¬ sameQ xs ys) : dotCS x xs ys = 1 := by unfold dotCS; rw [if_pos h, if_pos k, if_pos l, if_pos m, if_neg n]
theorem dotCS_ok {x : MNet} {xs ys : List MMirror} (h : quietC x = 0) (k : dotM xs ys) (l : fltC xs = 0) (m : fltC ys = 0) (n : sameQ xs ys) : dotCS x xs ys = 0 := by unfold dotCS; rw [if_pos h, if_pos k, if_pos l, if_pos m, if_pos n]
theorem RdMirrorS.qAt {w : World} {g o n c : Nat} {xs : List MMirror} (h : RdMirrorS w (.slice (some ⟨g, o, none⟩) n c) xs) (t : Nat) (ht : t < xs.length) : w.cell? ⟨g, o + t * 2, none⟩ = some (.int .i64 (xs.getD t zM).xQ) := by
  obtain ⟨a, cap, ev, _, hr⟩ := h
  simp only [Value.slice.injEq] at ev
  obtain ⟨rfl, _, rfl⟩ := ev
  obtain ⟨b, off, ev, _, hc⟩ := hr (by intro h; rw [h] at ht; simp at ht)
  simp only [Option.some.injEq, Addr.mk.injEq, and_true] at ev
  obtain ⟨rfl, rfl⟩ := ev
  obtain ⟨_, _, h1, _⟩ := hc t ht
  exact h1
set_option maxHeartbeats 4000000 in
set_option maxRecDepth 100000 in
theorem spec_l5Asked (b : Nat) (x : MNet) (p0 p1 p2 : Option Addr) (c0 c1 c2 : Nat) (v u : Value) (xs ys : List MMirror) (w : World) (hb : Blk w b 41 #[.slice p0 x.xTape.length c0, .slice p1 x.xUsed.length c1, .int .i64 x.xSent, .slice p2 x.xHeard.length c2, .int .i64 x.xCheat.xWho, .int .i64 x.xCheat.xAt, .int .i64 x.xCheat.xBy, .bool x.xCheat.xCry, .bool x.xQuarrel.xSome, .int .i64 x.xQuarrel.xFrom, .int .i64 x.xQuarrel.xCheck, .int .i64 x.xQuarrel.xTo, .int .i64 x.xQuarrel.xTold, .int .i64 x.xQuarrel.xHeard, .int .i64 x.xQuarrel.xOther, .int .i64 x.xQuarrel.xVowed]) (h0 : ReadsM w (.slice p0 x.xTape.length c0) x.xTape) (h1 : Reads w .i64 (.slice p1 x.xUsed.length c1) x.xUsed) (h2 : ReadsM w (.slice p2 x.xHeard.length c2) x.xHeard) (hv : RdMirrorS w v xs) (hu : RdMirrorS w u ys) :
    Calls Tryz.prog 46 #[.pointer (some ⟨b, 0, none⟩), v, u] w fun e w' => e = .returned (.int .i64 (dotCS x xs ys)) ∧ Below w.heap.size w w' := by
  have KQ := spec_l5Free b x p0 p1 p2 c0 c1 c2 w hb h0 h1 h2
  have KX := fun W (b : Below w.heap.size w W) => spec_l5Mirrors v xs W (hv.below b)
  have KY := fun W (b : Below w.heap.size w W) => spec_l5Mirrors u ys W (hu.below b)
  have HV : Hid (∀ W, Below w.heap.size w W → RdMirrorS W v xs) := fun W b => hv.below b
  have HU : Hid (∀ W, Below w.heap.size w W → RdMirrorS W u ys) := fun W b => hu.below b
  have hml : xs.length ≤ maxLen := by obtain ⟨_, _, _, h, _⟩ := hv; exact h
  have hml2 : ys.length ≤ maxLen := by obtain ⟨_, _, _, h, _⟩ := hu; exact h
  unfold maxLen at hml hml2
  obtain ⟨pa, ca, rfl⟩ := hv.shp
  obtain ⟨pb, cb, rfl⟩ := hu.shp
  clear hb h0 h1 h2 hv hu
  have B0 : Below w.heap.size w w := Below.refl _ _
  by_cases hq : quietC x = 0
  · rw [hq] at KQ
    by_cases hd : dotM xs ys
    · obtain ⟨d1, d2, d3⟩ := id hd
      obtain ⟨ga, oa, ca2, ev, la⟩ := (HV.out w (Below.refl _ _)).shape rfl d1
      simp only [Value.slice.injEq, true_and] at ev
      obtain ⟨rfl, rfl⟩ := ev
      obtain ⟨gb, ob, cb2, ev, lb⟩ := (HU.out w (Below.refl _ _)).shape rfl (by omega)
      simp only [Value.slice.injEq, true_and] at ev
      obtain ⟨rfl, rfl⟩ := ev
      have HRX : Hid (fltC xs ≠ 0 → dotCS x xs ys = fltC xs) := fun h => dotCS_x hq hd h
      have HRY : Hid (fltC xs = 0 → fltC ys ≠ 0 → dotCS x xs ys = fltC ys) := fun h h' => dotCS_y hq hd h h'
      have HRQ : Hid (fltC xs = 0 → fltC ys = 0 → ¬ sameQ xs ys → dotCS x xs ys = 1) := fun h h' k => dotCS_q hq hd h h' k
      have HRO : Hid (fltC xs = 0 → fltC ys = 0 → sameQ xs ys → dotCS x xs ys = 0) := fun h h' k => dotCS_ok hq hd h h' k
      have HSQ : Hid (sameQ xs ys ↔ ∀ j, j < xs.length → (xs.getD j zM).xQ = (xs.getD 0 zM).xQ ∧ (ys.getD j zM).xQ = (xs.getD 0 zM).xQ) := Iff.rfl
      have HLY : Hid (ys.length = xs.length) := d3
      have HXN : Hid (∃ m, m = xs.length) := ⟨_, rfl⟩
      obtain ⟨n, hxn⟩ := HXN.out
      clear HXN
      have HXN : Hid (xs.length = n) := hxn.symm
      have HYN : Hid (ys.length = n) := d3.trans hxn.symm
      have HSN : Hid (sameQ xs ys ↔ ∀ j, j < n → (xs.getD j zM).xQ = (xs.getD 0 zM).xQ ∧ (ys.getD j zM).xQ = (xs.getD 0 zM).xQ) := by
        have := HSQ.out
        rw [HXN.out] at this
        exact this
      rw [d3] at KY HU ⊢
      rw [← hxn] at KX KY HV HU d1 d2 ⊢
      clear HSQ HLY d3 hxn hml hml2
      have e1 : decide ((n : Int) < 1) = false := by simp; omega
      have e2 : decide ((6 : Int) < (n : Int)) = false := by simp; omega
      have e3 : ((n : Int) != (n : Int)) = false := by simp
      have n0 : (0 : Int) < (n : Int) := by omega
      clear hq hd
      go_enter Tryz.func46, Tryz.ntmps46
      go_wp2_with fail
      refine KQ.mono ?_
      rintro e w' ⟨rfl, rfl⟩
      clear KQ
      go_wp2_with fail
      refine (KX _ B0).mono ?_
      rintro e w1 ⟨rfl, hb1⟩
      have B1 := B0.trans hb1
      clear B0 hb1 KX
      by_cases hx : fltC xs = 0
      · have ex : (fltC xs != 0) = false := by simpa using hx
        go_wp2_with fail
        refine (KY _ B1).mono ?_
        rintro e w2 ⟨rfl, hb2⟩
        have B2 := B1.trans (hb2.mono B1.size)
        clear B1 hb2 KY
        by_cases hy : fltC ys = 0
        · have ey : (fltC ys != 0) = false := by simpa using hy
          have HQ1 := (show Hid _ from HRQ.out hx hy)
          have HQ0 := (show Hid _ from HRO.out hx hy)
          clear HRX HRY HRQ HRO hx hy
          go_wp2
          go_loopw [10] (fun z wr => ∃ k : Nat, k ≤ n ∧ z = .int .i64 k ∧ Hid (∀ j, j < k → (xs.getD j zM).xQ = (xs.getD 0 zM).xQ ∧ (ys.getD j zM).xQ = (xs.getD 0 zM).xQ) ∧ Below w.heap.size w wr) (fun z _ => n - (intOf z).toNat)
          case atStart => exact ⟨0, Nat.zero_le _, rfl, fun j hj => by omega, B2⟩
          case round =>
            clear B2
            obtain ⟨k, hk, rfl, HK, B⟩ := hrel
            by_cases hlt : k < n
            · have cx := (HV.out _ B).qAt k (by rw [HXN.out]; exact hlt)
              have c00 := (HV.out _ B).q0 (by rw [HXN.out]; omega)
              have cy := (HU.out _ B).qAt k (by rw [HYN.out]; exact hlt)
              have hk1 : (k : Int) < (n : Int) := by omega
              have hk0 : (0 : Int) ≤ (k : Int) := by omega
              have HNS : Hid (¬ ((xs.getD k zM).xQ = (xs.getD 0 zM).xQ ∧ (ys.getD k zM).xQ = (xs.getD 0 zM).xQ) → dotCS x xs ys = 1) := fun h => HQ1.out (fun hs => h ((HSN.out.1 hs) k hlt))
              have HNX : Hid (((xs.getD k zM).xQ = (xs.getD 0 zM).xQ ∧ (ys.getD k zM).xQ = (xs.getD 0 zM).xQ) → ∀ j, j < k + 1 → (xs.getD j zM).xQ = (xs.getD 0 zM).xQ ∧ (ys.getD j zM).xQ = (xs.getD 0 zM).xQ) := fun h j hj => by
                rcases Nat.lt_succ_iff_lt_or_eq.1 hj with h' | rfl
                · exact HK.out j h'
                · exact h
              clear HK
              have HEX : Hid (∀ P : Int → Int → Int → Prop, P (xs.getD k zM).xQ (ys.getD k zM).xQ (xs.getD 0 zM).xQ → True) := fun _ _ => trivial
              by_cases h1 : (xs.getD k zM).xQ = (xs.getD 0 zM).xQ
              · by_cases h2 : (ys.getD k zM).xQ = (xs.getD 0 zM).xQ
                · have HX1 := (show Hid _ from HNX.out ⟨h1, h2⟩)
                  rw [h1] at cx
                  rw [h2] at cy
                  clear h1 h2 HNS HNX HEX
                  generalize (xs.getD 0 zM).xQ = qq at *
                  have eq : (qq != qq) = false := by simp
                  go_wp2_with fail
                  go_quiet (fail)
                  go_wp2
                  go_roundw
                  case rel => exact ⟨k + 1, by omega, by go_num, HX1, by first | exact B | exact B.drew | exact below_drewN B _⟩
                  case measure => simp [intOf]; omega
                · have HRES : Hid (dotCS x xs ys = 1) := HNS.out (fun h => h2 h.2)
                  rw [h1] at cx
                  have eb : ((ys.getD k zM).xQ != (xs.getD 0 zM).xQ) = true := by simpa using h2
                  clear h1 h2 HNS HNX HEX
                  generalize (xs.getD 0 zM).xQ = qq at *
                  generalize (ys.getD k zM).xQ = qb at *
                  have eq : (qq != qq) = false := by simp
                  go_wp2_with fail
                  go_quiet (fail)
                  go_wp2
                  go_ret
                  exact ⟨by rw [HRES.out]; rfl, by first | exact B | exact B.drew | exact below_drewN B _⟩
              · have HRES : Hid (dotCS x xs ys = 1) := HNS.out (fun h => h1 h.1)
                have ea : ((xs.getD k zM).xQ != (xs.getD 0 zM).xQ) = true := by simpa using h1
                clear h1 HNS HNX HEX
                generalize (xs.getD 0 zM).xQ = qq at *
                generalize (xs.getD k zM).xQ = qa at *
                go_wp2_with fail
                go_quiet (fail)
                go_wp2
                go_ret
                exact ⟨by rw [HRES.out]; rfl, by first | exact B | exact B.drew | exact below_drewN B _⟩
            · obtain rfl : k = n := by omega
              have HRES : Hid (dotCS x xs ys = 0) := HQ0.out (HSN.out.2 HK.out)
              go_wp2
              go_ret
              exact ⟨by rw [HRES.out]; rfl, B⟩
        · have ey : (fltC ys != 0) = true := by simpa using hy
          have HRES : Hid (dotCS x xs ys = fltC ys) := HRY.out hx hy
          clear hx hy HRX HRY HRQ HRO
          generalize fltC ys = r at *
          go_wp2
          go_ret
          exact ⟨by rw [HRES.out]; rfl, B2⟩
      · have ex : (fltC xs != 0) = true := by simpa using hx
        have HRES : Hid (dotCS x xs ys = fltC xs) := HRX.out hx
        clear hx HRX HRY HRQ HRO
        generalize fltC xs = r at *
        go_wp2
        go_ret
        exact ⟨by rw [HRES.out]; rfl, B1⟩
    · have HRES : Hid (dotCS x xs ys = 2) := dotCS_many hq hd
      unfold dotM at hd
      generalize xs.length = n at *
      generalize ys.length = k at *
      by_cases h1 : n < 1
      · have e1 : decide ((n : Int) < 1) = true := by simp; omega
        go_enter Tryz.func46, Tryz.ntmps46
        go_wp2_with fail
        refine KQ.mono ?_
        rintro e w' ⟨rfl, rfl⟩
        clear KQ
        go_wp2
        go_ret
        exact ⟨by rw [HRES.out]; rfl, B0⟩
      · have e1 : decide ((n : Int) < 1) = false := by simp; omega
        by_cases h2 : 6 < n
        · have e2 : decide ((6 : Int) < (n : Int)) = true := by simp; omega
          go_enter Tryz.func46, Tryz.ntmps46
          go_wp2_with fail
          refine KQ.mono ?_
          rintro e w' ⟨rfl, rfl⟩
          clear KQ
          go_wp2
          go_ret
          exact ⟨by rw [HRES.out]; rfl, B0⟩
        · have e2 : decide ((6 : Int) < (n : Int)) = false := by simp; omega
          have e3 : ((k : Int) != (n : Int)) = true := by simp; omega
          go_enter Tryz.func46, Tryz.ntmps46
          go_wp2_with fail
          refine KQ.mono ?_
          rintro e w' ⟨rfl, rfl⟩
          clear KQ
          go_wp2
          go_ret
          exact ⟨by rw [HRES.out]; rfl, B0⟩
  · have HRES : Hid (dotCS x xs ys = quietC x) := dotCS_net hq
    have hne : (quietC x != 0) = true := by simpa using hq
    generalize quietC x = r at *
    clear hq
    go_enter Tryz.func46, Tryz.ntmps46
    go_wp2_with fail
    refine KQ.mono ?_
    rintro e w' ⟨rfl, rfl⟩
    clear KQ
    go_wp2
    go_ret
    exact ⟨by rw [HRES.out]; rfl, B0⟩
end Go.Proofs.YtepobckhfodngalGreat
