/-
  All that is asked of a row of products, in the program.
-/
import Derived.Test.YtepobckhfodngalGreatDotU
import Derived.Test.YtepobckhfodngalGreatJnZ
import Derived.Test.YtepobckhfodngalGreatSpA
namespace Go.Proofs.YtepobckhfodngalGreat
open Go.ChangeShapes Go.WideShapes Go.ChangeAt Go.RowKit
set_option linter.unusedVariables false

def dotM (xs ys : List MMirror) : Prop := 1 ≤ xs.length ∧ xs.length ≤ 6 ∧ ys.length = xs.length
instance (xs ys : List MMirror) : Decidable (dotM xs ys) := by unfold dotM; infer_instance
def dotCI (x : MNet) (xs ys : List MMirror) : Int := if quietC x = 0 then (if dotM xs ys then lsC (xs.getD 0 zM).xQ [xs, ys] else 2) else quietC x
theorem dotCI_net {x : MNet} {xs ys : List MMirror} (h : quietC x ≠ 0) : dotCI x xs ys = quietC x := if_neg h
theorem dotCI_many {x : MNet} {xs ys : List MMirror} (h : quietC x = 0) (k : ¬ dotM xs ys) : dotCI x xs ys = 2 := by unfold dotCI; rw [if_pos h, if_neg k]
theorem dotCI_ls {x : MNet} {xs ys : List MMirror} (h : quietC x = 0) (k : dotM xs ys) : dotCI x xs ys = lsC (xs.getD 0 zM).xQ [xs, ys] := by unfold dotCI; rw [if_pos h, if_pos k]
theorem RdMirrorS.q0 {w : World} {g o n c : Nat} {xs : List MMirror} (h : RdMirrorS w (.slice (some ⟨g, o, none⟩) n c) xs) (h0 : 1 ≤ xs.length) : w.cell? ⟨g, o, none⟩ = some (.int .i64 (xs.getD 0 zM).xQ) := by
  obtain ⟨a, cap, ev, _, hr⟩ := h
  simp only [Value.slice.injEq] at ev
  obtain ⟨rfl, _, rfl⟩ := ev
  obtain ⟨b, off, ev, _, hc⟩ := hr (by intro h; rw [h] at h0; simp at h0)
  simp only [Option.some.injEq, Addr.mk.injEq, and_true] at ev
  obtain ⟨rfl, rfl⟩ := ev
  obtain ⟨_, _, h1, _⟩ := hc 0 (by omega)
  simpa using h1
set_option maxHeartbeats 4000000 in
set_option maxRecDepth 100000 in
theorem impl_dotFault (vn : Value) (x : MNet) (v u : Value) (xs ys : List MMirror) (w : World) (hn : RdNet w vn x) (hv : RdMirrorS w v xs) (hu : RdMirrorS w u ys) :
    Calls Tryz.prog 50 #[vn, v, u] w fun e w' => e = .returned (.int .i64 (dotCI x xs ys)) ∧ Below w.heap.size w w' := by
  have KQ := fun W hb => impl_quietFault vn x W (hn.below (w := w) (w' := W) hb)
  obtain ⟨cs, rfl, R⟩ := hn.row
  have B0 : Below w.heap.size w (w.alloc (.cells cs 41)) := (by repeat (first | exact Below.refl _ _ | refine Below.drew ?_ | refine below_drewN ?_ _ | refine Below.setCell ?_ (by first | omega | (simp; done) | (simp; omega)) _ | refine Below.alloc ?_ (by first | omega | (simp; done) | (simp; omega)) _))
  have X0 := Blk.new w 41 cs
  have hR := R.hi (P := Tryz.prog) (T := 41) (by kernel_rfl)
  have HV : Hid (∀ W, Below w.heap.size w W → RdMirrorS W v xs) := fun W b => hv.below b
  have HU : Hid (∀ W, Below w.heap.size w W → RdMirrorS W u ys) := fun W b => hu.below b
  have hml : xs.length ≤ maxLen := by obtain ⟨_, _, _, h, _⟩ := hv; exact h
  have hml2 : ys.length ≤ maxLen := by obtain ⟨_, _, _, h, _⟩ := hu; exact h
  unfold maxLen at hml hml2
  obtain ⟨pa, ca, rfl⟩ := hv.shp
  obtain ⟨pb, cb, rfl⟩ := hu.shp
  clear hn hv hu R
  by_cases hq : quietC x = 0
  · rw [hq] at KQ
    by_cases hd : dotM xs ys
    · have HRES : Hid (dotCI x xs ys = lsC (xs.getD 0 zM).xQ [xs, ys]) := dotCI_ls hq hd
      obtain ⟨d1, d2, d3⟩ := hd
      have HL1 : Hid (1 ≤ xs.length) := d1
      have HLY : Hid (ys.length = xs.length) := d3
      obtain ⟨ga, oa, ca2, ev, la⟩ := (HV.out w (Below.refl _ _)).shape rfl d1
      simp only [Value.slice.injEq, true_and] at ev
      obtain ⟨rfl, rfl⟩ := ev
      generalize hxn : xs.length = n at *
      have HXN : Hid (xs.length = n) := hxn
      clear hxn
      generalize hyn : ys.length = k at *
      have HYN : Hid (ys.length = k) := hyn
      clear hyn
      subst d3
      have e1 : ((k : Int) == 0) = false := by simp; omega
      have e2 : decide ((6 : Int) < (k : Int)) = false := by simp; omega
      have e3 : ((k : Int) != (k : Int)) = false := by simp
      have k0 : (0 : Int) < (k : Int) := by omega
      go_enter Tryz.func50, Tryz.ntmps50
      go_wp2_with (refine wpList_load_blk rfl 41 _ rfl w.heap.size rfl X0 Tryz.underlying41 rfl hR ?_)
      refine (KQ _ B0).mono ?_
      rintro e w1 ⟨rfl, hb1⟩
      have B1 := B0.trans (hb1.mono B0.size)
      clear X0 B0 hb1 KQ
      have c0 : w1.cell? ⟨ga, oa, none⟩ = some (.int .i64 (xs.getD 0 zM).xQ) := by have h := HV.out w1 B1; exact h.q0 (by rw [HXN.out]; omega)
      have hA : Below w1.heap.size w1 (w1.alloc (.cells #[.slice (some ⟨ga, oa, none⟩) k ca, .slice pb k cb] 54)) := (Below.refl _ _).alloc (Nat.le_refl _) _
      have HLS : Hid (RdLs (w1.alloc (.cells #[.slice (some ⟨ga, oa, none⟩) k ca, .slice pb k cb] 54)) w1.heap.size [xs, ys]) := by
        have Bl := Blk.new w1 54 #[.slice (some ⟨ga, oa, none⟩) k ca, .slice pb k cb]
        refine ⟨Bl.lt, fun t ht => ?_⟩
        have BA := B1.trans (hA.mono B1.size)
        have hx := HV.out _ BA
        have hy := HU.out _ BA
        obtain rfl | rfl : t = 0 ∨ t = 1 := by simp at ht; omega
        · exact ⟨some ⟨ga, oa, none⟩, ca, by show _ = some (Value.slice _ xs.length _); rw [HXN.out]; exact Bl.at.1 0, by show RdMirrorS _ (Value.slice _ xs.length _) xs; rw [HXN.out]; exact hx⟩
        · exact ⟨pb, cb, by show _ = some (Value.slice _ ys.length _); rw [HYN.out]; exact Bl.at.1 1, by show RdMirrorS _ (Value.slice _ ys.length _) ys; rw [HYN.out]; exact hy⟩
      have B2 := B1.trans (hA.mono B1.size)
      have KM := impl_mirrorsFault (xs.getD 0 zM).xQ w1.heap.size 2 2 [xs, ys] _ HLS.out rfl (by omega)
      clear hA HLS
      generalize (xs.getD 0 zM).xQ = q at *
      go_wp2_with fail
      refine KM.mono ?_
      rintro e w3 ⟨rfl, hb3⟩
      go_wp2
      go_ret
      exact ⟨by rw [HRES.out]; rfl, B2.trans (hb3.mono B2.size)⟩
    · have HRES : Hid (dotCI x xs ys = 2) := dotCI_many hq hd
      unfold dotM at hd
      generalize xs.length = n at *
      generalize ys.length = k at *
      by_cases h1 : n = 0
      · subst h1
        have e1 : (((0 : Nat) : Int) == 0) = true := by simp
        go_enter Tryz.func50, Tryz.ntmps50
        go_wp2_with (refine wpList_load_blk rfl 41 _ rfl w.heap.size rfl X0 Tryz.underlying41 rfl hR ?_)
        refine (KQ _ B0).mono ?_
        rintro e w1 ⟨rfl, hb1⟩
        have B1 := B0.trans (hb1.mono B0.size)
        clear X0 B0 hb1 KQ
        go_wp2
        go_ret
        exact ⟨by rw [HRES.out]; rfl, B1⟩
      · have e1 : ((n : Int) == 0) = false := by simp; omega
        by_cases h2 : 6 < n
        · have e2 : decide ((6 : Int) < (n : Int)) = true := by simp; omega
          go_enter Tryz.func50, Tryz.ntmps50
          go_wp2_with (refine wpList_load_blk rfl 41 _ rfl w.heap.size rfl X0 Tryz.underlying41 rfl hR ?_)
          refine (KQ _ B0).mono ?_
          rintro e w1 ⟨rfl, hb1⟩
          have B1 := B0.trans (hb1.mono B0.size)
          clear X0 B0 hb1 KQ
          go_wp2
          go_ret
          exact ⟨by rw [HRES.out]; rfl, B1⟩
        · have e2 : decide ((6 : Int) < (n : Int)) = false := by simp; omega
          have e3 : ((k : Int) != (n : Int)) = true := by simp; omega
          go_enter Tryz.func50, Tryz.ntmps50
          go_wp2_with (refine wpList_load_blk rfl 41 _ rfl w.heap.size rfl X0 Tryz.underlying41 rfl hR ?_)
          refine (KQ _ B0).mono ?_
          rintro e w1 ⟨rfl, hb1⟩
          have B1 := B0.trans (hb1.mono B0.size)
          clear X0 B0 hb1 KQ
          go_wp2
          go_ret
          exact ⟨by rw [HRES.out]; rfl, B1⟩
  · have HRES : Hid (dotCI x xs ys = quietC x) := dotCI_net hq
    have hne : (quietC x != 0) = true := by simpa using hq
    generalize quietC x = r at *
    clear hq
    go_enter Tryz.func50, Tryz.ntmps50
    go_wp2_with (refine wpList_load_blk rfl 41 _ rfl w.heap.size rfl X0 Tryz.underlying41 rfl hR ?_)
    refine (KQ _ B0).mono ?_
    rintro e w1 ⟨rfl, hb1⟩
    have B1 := B0.trans (hb1.mono B0.size)
    clear X0 B0 hb1 KQ
    go_wp2
    go_ret
    exact ⟨by rw [HRES.out]; rfl, B1⟩
end Go.Proofs.YtepobckhfodngalGreat
