/-
  Contracts of chapter 3 of the program: multiples of mirrors; mirrors of what all know.
-/
import Derived.Test.YtepobckhfodngaaMirU
import Derived.Deep.RegionWith
namespace Go.Proofs.Ytepobckhfodngaa
open Go.ChangeShapes Go.WideShapes Go.ChangeAt Go.RowKit
set_option linter.unusedVariables false

set_option maxHeartbeats 8000000 in
set_option maxRecDepth 100000 in
theorem impl_ScaleMirror (v : Value) (x : MMirror) (k : Int) (w : World) (hv : RdMirror w v x) :
    Calls Try.prog 55 #[v, .int .i64 k] w fun e w' => ∃ u b0, e = .returned u ∧ OwMirrorResult w' u (scaleR x k) b0 ∧ (∀ y ∈ b0, w.heap.size ≤ y) ∧ Below w.heap.size w w' := by
  obtain ⟨p, c, rfl, hv⟩ := hv
  obtain ⟨q, xss⟩ := x
  dsimp only at hv ⊢
  have B0 : Below w.heap.size w ((w.alloc (.cells #[.int .i64 q, .slice p xss.length c] 59)).alloc (.cells #[.int .i64 0, .int .i64 0, .slice none 0 0] 61)) := (by repeat (first | exact Below.refl _ _ | refine Below.drew ?_ | refine below_drewN ?_ _ | refine Below.setCell ?_ (by first | omega | (simp; done) | (simp; omega)) _ | refine Below.alloc ?_ (by first | omega | (simp; done) | (simp; omega)) _))
  have X0 : Blk ((w.alloc (.cells #[.int .i64 q, .slice p xss.length c] 59)).alloc (.cells #[.int .i64 0, .int .i64 0, .slice none 0 0] 61)) w.heap.size 59 #[.int .i64 q, .slice p xss.length c] := (Blk.new w _ _).alloc _
  have Z0 : Blk ((w.alloc (.cells #[.int .i64 q, .slice p xss.length c] 59)).alloc (.cells #[.int .i64 0, .int .i64 0, .slice none 0 0] 61)) (w.heap.size + 1) 61 #[.int .i64 0, .int .i64 0, .slice none 0 0] := by simpa using Blk.new (w.alloc (.cells #[.int .i64 q, .slice p xss.length c] 59)) 61 #[.int .i64 0, .int .i64 0, .slice none 0 0]
  have HV : Hid (∀ W, Below w.heap.size w W → RdMirror W (.agg #[.int .i64 q, .slice p xss.length c]) ⟨q, xss⟩) := fun W B => ⟨p, c, rfl, hv.below B⟩
  have K := fun w h => impl_MirrorFault (.agg #[.int .i64 q, .slice p xss.length c]) ⟨q, xss⟩ w h
  dsimp only at K
  have HBad : ∀ r w2, Below w.heap.size w w2 → ∀ W, Off [w.heap.size + 1] w2 W → (∃ u b0, Ending.returned (.agg #[.int .i64 r, .int .i64 0, .slice none 0 0]) = .returned u ∧ OwMirrorResult W u (badR r) b0 ∧ (∀ y ∈ b0, w.heap.size ≤ y) ∧ Below w.heap.size w W) := fun r w2 B W OO => ⟨_, [], rfl, ⟨none, 0, rfl, Mat.nil _⟩, by simp, B.trans (OO.toBelow B.size (by simp))⟩
  clear hv
  by_cases h0 : mirC q xss = 0
  · have hq := (mirC_zero h0).1
    have q1 : 2 ≤ q := by rcases hq with h | h <;> omega
    have q2 : q ≤ 256 := by rcases hq with h | h <;> omega
    by_cases hk : 0 ≤ k ∧ k < q
    · have HN : Hid (scaleR ⟨q, xss⟩ k = ⟨0, ⟨q, opRows (fun x _ => x * k) q xss xss⟩⟩) := scaleR_ok h0 hk
      have sa : Sq xss := ⟨(mirC_zero h0).2.1, (mirC_zero h0).2.2.1⟩
      have HS : Hid (Sq xss) := sa
      have HXB : Hid (∀ i j, 0 ≤ pt xss i j ∧ pt xss i j < q) := pt_bd h0
      have HZ : Hid (flatTo (fun x _ => x * k) q xss xss 0 = xss.flatten) := flatTo_zero _ q xss xss sa
      have KV := fun w h => impl_viewsOf (.agg #[.int .i64 q, .slice p xss.length c]) ⟨q, xss⟩ w h sa
      have KR := fun w => impl_views_result q (opRows (fun x _ => x * k) q xss xss) w (opRows_sq ..)
      dsimp only at KV
      obtain ⟨a0, a1, a2, a3, b0, b1, b2, b3, c0, c1, c2, c3, d0, d1, d2, d3, hxs⟩ := sa.lit
      have HX : Hid (xss = [[a0, a1, a2, a3], [b0, b1, b2, b3], [c0, c1, c2, c3], [d0, d1, d2, d3]]) := hxs
      have ea : ag2 xss = .agg #[.int .i64 a0, .int .i64 a1, .int .i64 a2, .int .i64 a3, .int .i64 b0, .int .i64 b1, .int .i64 b2, .int .i64 b3, .int .i64 c0, .int .i64 c1, .int .i64 c2, .int .i64 c3, .int .i64 d0, .int .i64 d1, .int .i64 d2, .int .i64 d3] := by rw [hxs]; rfl
      rw [ea] at KV
      rw [h0] at K
      rw [HN.out]
      have HQ : Hid (isQ q) := hq
      have HK : Hid (0 ≤ k ∧ k < q) := hk
      clear h0 HN HBad sa ea hxs hq
      go_enter Try.func55, Try.ntmps55
      go_wp2_with fail
      refine (K _ (HV.out _ B0)).mono ?_
      rintro e w1 ⟨rfl, hb1⟩
      replace X0 := X0.keep hb1
      replace Z0 := Z0.keep hb1
      replace B0 : Below w.heap.size w w1 := B0.trans (hb1.mono B0.size)
      clear hb1 K
      have xa := X0.at.1
      go_wp2_with fail
      refine (impl_isElement_yes _ _ _ hk.1 hk.2).mono ?_
      rintro e w9 ⟨rfl, rfl⟩
      go_wp2_with fail
      refine (KV _ (HV.out _ B0)).mono ?_
      rintro e w3 ⟨rfl, hb3⟩
      replace X0 := (X0.keep hb3).alloc (.cells #[.int .i64 a0, .int .i64 a1, .int .i64 a2, .int .i64 a3, .int .i64 b0, .int .i64 b1, .int .i64 b2, .int .i64 b3, .int .i64 c0, .int .i64 c1, .int .i64 c2, .int .i64 c3, .int .i64 d0, .int .i64 d1, .int .i64 d2, .int .i64 d3] 113)
      have Zk := Z0.keep hb3
      replace Z0 := Zk.alloc (.cells #[.int .i64 a0, .int .i64 a1, .int .i64 a2, .int .i64 a3, .int .i64 b0, .int .i64 b1, .int .i64 b2, .int .i64 b3, .int .i64 c0, .int .i64 c1, .int .i64 c2, .int .i64 c3, .int .i64 d0, .int .i64 d1, .int .i64 d2, .int .i64 d3] 113)
      replace B0 : Below w.heap.size w w3 := B0.trans (hb3.mono B0.size)
      replace B0 := B0.alloc B0.size (.cells #[.int .i64 a0, .int .i64 a1, .int .i64 a2, .int .i64 a3, .int .i64 b0, .int .i64 b1, .int .i64 b2, .int .i64 b3, .int .i64 c0, .int .i64 c1, .int .i64 c2, .int .i64 c3, .int .i64 d0, .int .i64 d1, .int .i64 d2, .int .i64 d3] 113)
      have Y0 : Blk (w3.alloc (.cells #[.int .i64 a0, .int .i64 a1, .int .i64 a2, .int .i64 a3, .int .i64 b0, .int .i64 b1, .int .i64 b2, .int .i64 b3, .int .i64 c0, .int .i64 c1, .int .i64 c2, .int .i64 c3, .int .i64 d0, .int .i64 d1, .int .i64 d2, .int .i64 d3] 113)) w3.heap.size 113 (cells1 (flatTo (fun x _ => x * k) q xss xss 0)) := by
        rw [HZ.out, HX.out]
        exact Blk.new w3 _ _
      have hlt3 : w.heap.size + 1 < w3.heap.size := Zk.lt
      clear hb3 KV xa Zk
      go_wp2_with fail
      go_loopw [26] (fun i wr => ∃ n : Nat, n ≤ 4 ∧ i = .int .i64 n ∧ Blk wr w.heap.size 59 #[.int .i64 q, .slice p xss.length c] ∧ Blk wr (w.heap.size + 1) 61 #[.int .i64 0, .int .i64 0, .slice none 0 0] ∧ Blk wr w3.heap.size 113 (cells1 (flatTo (fun x _ => x * k) q xss xss (n * 4))) ∧ Below w.heap.size w wr) (fun i _ => 4 - (intOf i).toNat)
      case atStart => exact ⟨0, Nat.zero_le _, rfl, X0, Z0, Y0, B0⟩
      case round =>
        clear X0 Y0 Z0 B0
        obtain ⟨n, hn, rfl, X, Z, Y, B⟩ := hrel
        by_cases hlt : n < 4
        · obtain ⟨r0, r1, r2, r3, hr⟩ := HS.out.row n hlt
          have hidx := run_row a0 a1 a2 a3 b0 b1 b2 b3 c0 c1 c2 c3 d0 d1 d2 d3 n hlt r0 r1 r2 r3 (by rw [← HX.out]; exact hr)
          have HP : Hid (∀ m, [r0, r1, r2, r3].getD m 0 = pt xss n m) := fun m => by unfold pt; rw [hr]
          have hone := fun m hm => run_one r0 r1 r2 r3 m hm
          have hi' : (n : Int) < 4 := by omega
          have hi0 : (0 : Int) ≤ (n : Int) := by omega
          have BW : Below w.heap.size w (wr.alloc (.cells #[.int .i64 r0, .int .i64 r1, .int .i64 r2, .int .i64 r3] 111)) := B.alloc B.size _
          have XW := X.alloc (.cells #[.int .i64 r0, .int .i64 r1, .int .i64 r2, .int .i64 r3] 111)
          have YW := Y.alloc (.cells #[.int .i64 r0, .int .i64 r1, .int .i64 r2, .int .i64 r3] 111)
          have ZW := Z.alloc (.cells #[.int .i64 r0, .int .i64 r1, .int .i64 r2, .int .i64 r3] 111)
          clear hr X Y Z B
          go_wp2_with fail
          clear hidx
          go_loopw [31] (fun i wr => ∃ m : Nat, m ≤ 4 ∧ i = .int .i64 m ∧ Blk wr w.heap.size 59 #[.int .i64 q, .slice p xss.length c] ∧ Blk wr (w.heap.size + 1) 61 #[.int .i64 0, .int .i64 0, .slice none 0 0] ∧ Blk wr w3.heap.size 113 (cells1 (flatTo (fun x _ => x * k) q xss xss (n * 4 + m))) ∧ Below w.heap.size w wr) (fun i _ => 4 - (intOf i).toNat)
          case atStart => exact ⟨0, Nat.zero_le _, rfl, XW, ZW, YW, BW⟩
          case round =>
            clear XW YW ZW BW
            obtain ⟨m, hm, rfl, X, Z, Y, B⟩ := hrel
            by_cases hlt2 : m < 4
            · have ho := hone m hlt2
              rw [HP.out] at ho
              have hi2 : (m : Int) < 4 := by omega
              have hi20 : (0 : Int) ≤ (m : Int) := by omega
              have c1 := Y.one (n * 4 + m) (by rw [flatTo_length]; omega)
              rw [flatTo_getD _ q xss xss n m hlt hlt2] at c1
              have HKK : Hid ((flatTo (fun x _ => x * k) q xss xss (n * 4 + m)).set (n * 4 + m) ((pt xss n m * k) % q) = flatTo (fun x _ => x * k) q xss xss (n * 4 + (m + 1))) := flatTo_set (fun x _ => x * k) q xss xss n m hlt hlt2
              have HOK : Hid (okR q (pt xss n m) k) := ⟨HQ.out, (HXB.out n m).1, (HXB.out n m).2, HK.out.1, HK.out.2⟩
              clear hone
              generalize pt xss n m = x at *
              have fd := field_1
              have xa := X.at.1
              have Xd := X.drew
              have Yd := Y.drew
              have Zd := Z.drew
              have Bd := B.drew
              clear X Y Z B
              go_wp2_with fail
              go_region_with (first | (go_at_call 13; refine (impl_MulRing_yes q x k _ HOK.out).mono ?_; rintro e w7 ⟨rfl, hb7⟩; have X7 := Xd.keep hb7; have Y7 := Yd.keep hb7; have Z7 := Zd.keep hb7; have B7 := Bd.trans (hb7.mono Bd.size); have c7 := (hb7.cell (p := ⟨w3.heap.size, n * 4 + m, none⟩) Yd.lt).trans c1; have f7 := Y7.at.2 (n * 4 + m); clear hb7))
              all_goals
                have Y8 := Y7.set1 (n * 4 + m) ((x * k) % q)
                rw [HKK.out] at Y8
                clear Y7 c7 f7 Xd Yd Zd Bd c1 xa
                go_wp2
                go_roundw
                case rel => exact ⟨m + 1, by omega, by go_num, X7.setOther _ _ (by simp; omega), Z7.setOther _ _ (by simp; omega), Y8, B7.setCell (by simp; omega) _⟩
                case measure => simp [intOf]; omega
            · obtain rfl : m = 4 := by omega
              go_wp2
              go_roundw
              case rel => exact ⟨n + 1, by omega, by go_num, X, Z, by rw [show (n + 1) * 4 = n * 4 + 4 by omega]; exact Y, B⟩
              case measure => simp [intOf]; omega
        · obtain rfl : n = 4 := by omega
          rw [show 4 * 4 = 16 from rfl, flatTo_all] at Y
          obtain ⟨x0, x1, x2, x3, y0, y1, y2, y3, z0, z1, z2, z3, v0, v1, v2, v3, hp⟩ := (opRows_sq (fun x _ => x * k) q xss xss).lit
          have eo : ag2 (opRows (fun x _ => x * k) q xss xss) = .agg #[.int .i64 x0, .int .i64 x1, .int .i64 x2, .int .i64 x3, .int .i64 y0, .int .i64 y1, .int .i64 y2, .int .i64 y3, .int .i64 z0, .int .i64 z1, .int .i64 z2, .int .i64 z3, .int .i64 v0, .int .i64 v1, .int .i64 v2, .int .i64 v3] := by rw [hp]; rfl
          rw [eo] at KR
          rw [hp] at Y
          have Y' : Blk wr w3.heap.size 113 #[.int .i64 x0, .int .i64 x1, .int .i64 x2, .int .i64 x3, .int .i64 y0, .int .i64 y1, .int .i64 y2, .int .i64 y3, .int .i64 z0, .int .i64 z1, .int .i64 z2, .int .i64 z3, .int .i64 v0, .int .i64 v1, .int .i64 v2, .int .i64 v3] := Y
          clear hp Y eo HS HX HXB HZ
          have ya := Y'.at.1
          have xa := X.at.1
          go_wp2_with fail
          refine (KR _).mono ?_
          rintro e w5 ⟨u, b0', rfl, hT, hf, hb5⟩
          obtain ⟨pp, cc, rfl, hM⟩ := hT
          have Z5 := Z.keep hb5
          have zl := Z.lt
          have B5 := B.trans (hb5.mono B.size)
          have hf' : ∀ y ∈ b0', w.heap.size + 1 < y := fun y hy => by have := hf y hy; omega
          have za := Z5.at.1
          have zb := Z5.at.2
          dsimp only at hM ⊢
          have OO : ∀ W, Off [w.heap.size + 1] w5 W → (∃ u b0, Ending.returned (.agg #[.int .i64 0, .int .i64 q, .slice pp (opRows (fun x _ => x * k) q xss xss).length cc]) = .returned u ∧ OwMirrorResult W u ⟨0, ⟨q, (opRows (fun x _ => x * k) q xss xss)⟩⟩ b0 ∧ (∀ y ∈ b0, w.heap.size ≤ y) ∧ Below w.heap.size w W) := fun W OO => ⟨_, b0', rfl, ⟨pp, cc, rfl, hM.off OO (fun x hx hm => by have := hf' x hx; simp at hm; omega)⟩, fun y hy => by have := hf' y hy; omega, B5.trans (OO.toBelow B5.size (by simp))⟩
          clear hM hf hf' hb5 X Y' Z B Z5 B5 ya xa KR
          generalize (opRows (fun x _ => x * k) q xss xss).length = n at *
          go_wp2
          exact bodyPost_ret (v := .agg #[.int .i64 0, .int .i64 q, .slice pp n cc]) (by simp [results, Try.results55, go_sem, za]) rfl (OO _ ((((Off.refl _ _).setCell _ _ (by simp)).setCell _ _ (by simp)).setCell _ _ (by simp)))
    · have HN : Hid (scaleR ⟨q, xss⟩ k = badR 3) := scaleR_k h0 hk
      rw [h0] at K
      rw [HN.out]
      clear h0 HN
      go_enter Try.func55, Try.ntmps55
      go_wp2_with fail
      refine (K _ (HV.out _ B0)).mono ?_
      rintro e w1 ⟨rfl, hb1⟩
      replace X0 := X0.keep hb1
      replace Z0 := Z0.keep hb1
      replace B0 : Below w.heap.size w w1 := B0.trans (hb1.mono B0.size)
      clear hb1
      have xa := X0.at.1
      go_wp2_with fail
      refine (impl_isElement_no _ _ _ (by omega)).mono ?_
      rintro e w9 ⟨rfl, rfl⟩
      have za := Z0.at.1
      have zb := Z0.at.2
      have OO := HBad 3 w1 B0
      clear HBad
      go_wp2
      exact bodyPost_ret (v := .agg #[.int .i64 3, .int .i64 0, .slice none 0 0]) (by simp [results, Try.results55, go_sem, za]) rfl (OO _ ((((Off.refl _ _).setCell _ _ (by simp)).setCell _ _ (by simp)).setCell _ _ (by simp)))
  · rw [scaleR_fault k h0]
    have hne : (mirC q xss == 0) = false := by simpa using h0
    clear h0
    generalize mirC q xss = r at *
    go_enter Try.func55, Try.ntmps55
    go_wp2_with fail
    refine (K _ (HV.out _ B0)).mono ?_
    rintro e w1 ⟨rfl, hb1⟩
    replace Z0 := Z0.keep hb1
    replace B0 : Below w.heap.size w w1 := B0.trans (hb1.mono B0.size)
    clear hb1 X0
    have za := Z0.at.1
    have zb := Z0.at.2
    have OO := HBad r w1 B0
    clear HBad
    go_wp2
    exact bodyPost_ret (v := .agg #[.int .i64 r, .int .i64 0, .slice none 0 0]) (by simp [results, Try.results55, go_sem, za]) rfl (OO _ ((((Off.refl _ _).setCell _ _ (by simp)).setCell _ _ (by simp)).setCell _ _ (by simp)))
end Go.Proofs.Ytepobckhfodngaa
