/-
  Contracts of chapter 3 of the program: views that are put together part by part: differences.
-/
import Derived.Test.YtepobckhfodngaoGreatMirW
import Derived.Deep.RegionWith
namespace Go.Proofs.YtepobckhfodngaoGreat
open Go.ChangeShapes Go.WideShapes Go.ChangeAt Go.RowKit
set_option linter.unusedVariables false

set_option maxHeartbeats 8000000 in
set_option maxRecDepth 100000 in
theorem impl_join_SubRing (q : Int) (xss yss : List (List Int)) (w : World) (hs : Sq xss) (hs2 : Sq yss) (hq : isQ q) (hx : ∀ i j, 0 ≤ pt xss i j ∧ pt xss i j < q) (hy : ∀ i j, 0 ≤ pt yss i j ∧ pt yss i j < q) :
    Calls Tryz.prog 122 #[ag2 xss, .int .i64 q, ag2 yss, .func (.func 123) #[] #[]] w fun e w' => e = .returned (ag2 (opRows (fun x y => x - y) q xss yss)) ∧ Below w.heap.size w w' := by
  have HS : Hid (Sq xss) := hs
  have HS2 : Hid (Sq yss) := hs2
  have HXB : Hid (∀ i j, 0 ≤ pt xss i j ∧ pt xss i j < q) := hx
  have HYB : Hid (∀ i j, 0 ≤ pt yss i j ∧ pt yss i j < q) := hy
  have HZ : Hid (flatTo (fun x y => x - y) q xss yss 0 = xss.flatten) := flatTo_zero _ q xss yss hs
  obtain ⟨a0, a1, a2, a3, b0, b1, b2, b3, c0, c1, c2, c3, d0, d1, d2, d3, hxs⟩ := hs.lit
  obtain ⟨e0, e1, e2, e3, f0, f1, f2, f3, g0, g1, g2, g3, h0, h1, h2, h3, hys⟩ := hs2.lit
  have HX : Hid (xss = [[a0, a1, a2, a3], [b0, b1, b2, b3], [c0, c1, c2, c3], [d0, d1, d2, d3]]) := hxs
  have HY : Hid (yss = [[e0, e1, e2, e3], [f0, f1, f2, f3], [g0, g1, g2, g3], [h0, h1, h2, h3]]) := hys
  have ea : ag2 xss = .agg #[.int .i64 a0, .int .i64 a1, .int .i64 a2, .int .i64 a3, .int .i64 b0, .int .i64 b1, .int .i64 b2, .int .i64 b3, .int .i64 c0, .int .i64 c1, .int .i64 c2, .int .i64 c3, .int .i64 d0, .int .i64 d1, .int .i64 d2, .int .i64 d3] := by rw [hxs]; rfl
  have ee : ag2 yss = .agg #[.int .i64 e0, .int .i64 e1, .int .i64 e2, .int .i64 e3, .int .i64 f0, .int .i64 f1, .int .i64 f2, .int .i64 f3, .int .i64 g0, .int .i64 g1, .int .i64 g2, .int .i64 g3, .int .i64 h0, .int .i64 h1, .int .i64 h2, .int .i64 h3] := by rw [hys]; rfl
  rw [ea, ee]
  clear ea ee hs hs2 hxs hys hx hy
  have B0 : Below w.heap.size w (((w.alloc (.cells #[.int .i64 a0, .int .i64 a1, .int .i64 a2, .int .i64 a3, .int .i64 b0, .int .i64 b1, .int .i64 b2, .int .i64 b3, .int .i64 c0, .int .i64 c1, .int .i64 c2, .int .i64 c3, .int .i64 d0, .int .i64 d1, .int .i64 d2, .int .i64 d3] 85)).alloc (.cells #[.int .i64 e0, .int .i64 e1, .int .i64 e2, .int .i64 e3, .int .i64 f0, .int .i64 f1, .int .i64 f2, .int .i64 f3, .int .i64 g0, .int .i64 g1, .int .i64 g2, .int .i64 g3, .int .i64 h0, .int .i64 h1, .int .i64 h2, .int .i64 h3] 85)).alloc (.cells #[.int .i64 0, .int .i64 0, .int .i64 0, .int .i64 0, .int .i64 0, .int .i64 0, .int .i64 0, .int .i64 0, .int .i64 0, .int .i64 0, .int .i64 0, .int .i64 0, .int .i64 0, .int .i64 0, .int .i64 0, .int .i64 0] 85)) := (by repeat (first | exact Below.refl _ _ | refine Below.drew ?_ | refine below_drewN ?_ _ | refine Below.setCell ?_ (by first | omega | (simp; done) | (simp; omega)) _ | refine Below.alloc ?_ (by first | omega | (simp; done) | (simp; omega)) _))
  have Y0 : Blk (((w.alloc (.cells #[.int .i64 a0, .int .i64 a1, .int .i64 a2, .int .i64 a3, .int .i64 b0, .int .i64 b1, .int .i64 b2, .int .i64 b3, .int .i64 c0, .int .i64 c1, .int .i64 c2, .int .i64 c3, .int .i64 d0, .int .i64 d1, .int .i64 d2, .int .i64 d3] 85)).alloc (.cells #[.int .i64 e0, .int .i64 e1, .int .i64 e2, .int .i64 e3, .int .i64 f0, .int .i64 f1, .int .i64 f2, .int .i64 f3, .int .i64 g0, .int .i64 g1, .int .i64 g2, .int .i64 g3, .int .i64 h0, .int .i64 h1, .int .i64 h2, .int .i64 h3] 85)).alloc (.cells #[.int .i64 0, .int .i64 0, .int .i64 0, .int .i64 0, .int .i64 0, .int .i64 0, .int .i64 0, .int .i64 0, .int .i64 0, .int .i64 0, .int .i64 0, .int .i64 0, .int .i64 0, .int .i64 0, .int .i64 0, .int .i64 0] 85)) w.heap.size 85 (cells1 (flatTo (fun x y => x - y) q xss yss 0)) := by
    rw [HZ.out, HX.out]
    exact ((Blk.new w _ _).alloc _).alloc _
  have Z0 : Blk (((w.alloc (.cells #[.int .i64 a0, .int .i64 a1, .int .i64 a2, .int .i64 a3, .int .i64 b0, .int .i64 b1, .int .i64 b2, .int .i64 b3, .int .i64 c0, .int .i64 c1, .int .i64 c2, .int .i64 c3, .int .i64 d0, .int .i64 d1, .int .i64 d2, .int .i64 d3] 85)).alloc (.cells #[.int .i64 e0, .int .i64 e1, .int .i64 e2, .int .i64 e3, .int .i64 f0, .int .i64 f1, .int .i64 f2, .int .i64 f3, .int .i64 g0, .int .i64 g1, .int .i64 g2, .int .i64 g3, .int .i64 h0, .int .i64 h1, .int .i64 h2, .int .i64 h3] 85)).alloc (.cells #[.int .i64 0, .int .i64 0, .int .i64 0, .int .i64 0, .int .i64 0, .int .i64 0, .int .i64 0, .int .i64 0, .int .i64 0, .int .i64 0, .int .i64 0, .int .i64 0, .int .i64 0, .int .i64 0, .int .i64 0, .int .i64 0] 85)) (w.heap.size + 1 + 1) 85 #[.int .i64 0, .int .i64 0, .int .i64 0, .int .i64 0, .int .i64 0, .int .i64 0, .int .i64 0, .int .i64 0, .int .i64 0, .int .i64 0, .int .i64 0, .int .i64 0, .int .i64 0, .int .i64 0, .int .i64 0, .int .i64 0] := by simpa using Blk.new ((w.alloc (.cells #[.int .i64 a0, .int .i64 a1, .int .i64 a2, .int .i64 a3, .int .i64 b0, .int .i64 b1, .int .i64 b2, .int .i64 b3, .int .i64 c0, .int .i64 c1, .int .i64 c2, .int .i64 c3, .int .i64 d0, .int .i64 d1, .int .i64 d2, .int .i64 d3] 85)).alloc (.cells #[.int .i64 e0, .int .i64 e1, .int .i64 e2, .int .i64 e3, .int .i64 f0, .int .i64 f1, .int .i64 f2, .int .i64 f3, .int .i64 g0, .int .i64 g1, .int .i64 g2, .int .i64 g3, .int .i64 h0, .int .i64 h1, .int .i64 h2, .int .i64 h3] 85)) 85 #[.int .i64 0, .int .i64 0, .int .i64 0, .int .i64 0, .int .i64 0, .int .i64 0, .int .i64 0, .int .i64 0, .int .i64 0, .int .i64 0, .int .i64 0, .int .i64 0, .int .i64 0, .int .i64 0, .int .i64 0, .int .i64 0]
  go_enter Tryz.func122, Tryz.ntmps122
  go_wp2
  go_loopw [14] (fun i wr => ∃ k : Nat, k ≤ 4 ∧ i = .int .i64 k ∧ Blk wr w.heap.size 85 (cells1 (flatTo (fun x y => x - y) q xss yss (k * 4))) ∧ Blk wr (w.heap.size + 1 + 1) 85 #[.int .i64 0, .int .i64 0, .int .i64 0, .int .i64 0, .int .i64 0, .int .i64 0, .int .i64 0, .int .i64 0, .int .i64 0, .int .i64 0, .int .i64 0, .int .i64 0, .int .i64 0, .int .i64 0, .int .i64 0, .int .i64 0] ∧ Below w.heap.size w wr) (fun i _ => 4 - (intOf i).toNat)
  case atStart => exact ⟨0, Nat.zero_le _, rfl, Y0, Z0, B0⟩
  case round =>
    clear Y0 Z0 B0
    obtain ⟨k, hk, rfl, Y, Z, B⟩ := hrel
    by_cases hlt : k < 4
    · obtain ⟨r0, r1, r2, r3, hr⟩ := HS2.out.row k hlt
      have hidx := run_row e0 e1 e2 e3 f0 f1 f2 f3 g0 g1 g2 g3 h0 h1 h2 h3 k hlt r0 r1 r2 r3 (by rw [← HY.out]; exact hr)
      have HP : Hid (∀ m, [r0, r1, r2, r3].getD m 0 = pt yss k m) := fun m => by unfold pt; rw [hr]
      have hone := fun m hm => run_one r0 r1 r2 r3 m hm
      have hi' : (k : Int) < 4 := by omega
      have hi0 : (0 : Int) ≤ (k : Int) := by omega
      have BW : Below w.heap.size w (wr.alloc (.cells #[.int .i64 r0, .int .i64 r1, .int .i64 r2, .int .i64 r3] 83)) := B.alloc B.size _
      have YW := Y.alloc (.cells #[.int .i64 r0, .int .i64 r1, .int .i64 r2, .int .i64 r3] 83)
      have ZW := Z.alloc (.cells #[.int .i64 r0, .int .i64 r1, .int .i64 r2, .int .i64 r3] 83)
      clear hr Y Z B
      go_wp2_with fail
      clear hidx
      go_loopw [19] (fun i wr => ∃ m : Nat, m ≤ 4 ∧ i = .int .i64 m ∧ Blk wr w.heap.size 85 (cells1 (flatTo (fun x y => x - y) q xss yss (k * 4 + m))) ∧ Blk wr (w.heap.size + 1 + 1) 85 #[.int .i64 0, .int .i64 0, .int .i64 0, .int .i64 0, .int .i64 0, .int .i64 0, .int .i64 0, .int .i64 0, .int .i64 0, .int .i64 0, .int .i64 0, .int .i64 0, .int .i64 0, .int .i64 0, .int .i64 0, .int .i64 0] ∧ Below w.heap.size w wr) (fun i _ => 4 - (intOf i).toNat)
      case atStart => exact ⟨0, Nat.zero_le _, rfl, YW, ZW, BW⟩
      case round =>
        clear YW ZW BW
        obtain ⟨m, hm, rfl, Y, Z, B⟩ := hrel
        by_cases hlt2 : m < 4
        · have ho := hone m hlt2
          rw [HP.out] at ho
          have hi2 : (m : Int) < 4 := by omega
          have hi20 : (0 : Int) ≤ (m : Int) := by omega
          have c1 := Y.one (k * 4 + m) (by rw [flatTo_length]; omega)
          rw [flatTo_getD _ q xss yss k m hlt hlt2] at c1
          have HK : Hid ((flatTo (fun x y => x - y) q xss yss (k * 4 + m)).set (k * 4 + m) ((pt xss k m - pt yss k m) % q) = flatTo (fun x y => x - y) q xss yss (k * 4 + (m + 1))) := flatTo_set (fun x y => x - y) q xss yss k m hlt hlt2
          have hok : okR q (pt xss k m) (pt yss k m) := ⟨hq, (HXB.out k m).1, (HXB.out k m).2, (HYB.out k m).1, (HYB.out k m).2⟩
          have HOK : Hid (okR q (pt xss k m) (pt yss k m)) := hok
          clear hone hok
          generalize pt xss k m = x at *
          generalize pt yss k m = y at *
          have fd := field_1
          have Yd := Y.drew
          have Zd := Z.drew
          have Bd := B.drew
          clear Y Z B
          go_wp2_with fail
          go_region_with (first | (go_at_call 123; refine (impl_SubRing_yes q x y _ HOK.out).mono ?_; rintro e w7 ⟨rfl, hb7⟩; have Y7 := Yd.keep hb7; have Z7 := Zd.keep hb7; have B7 := Bd.trans (hb7.mono Bd.size); have c7 := (hb7.cell (p := ⟨w.heap.size, k * 4 + m, none⟩) Yd.lt).trans c1; have f7 := Y7.at.2 (k * 4 + m); clear hb7))
          all_goals
            have Y8 := Y7.set1 (k * 4 + m) ((x - y) % q)
            rw [HK.out] at Y8
            clear Y7 c7 f7 Yd Zd Bd c1
            go_wp2
            go_roundw
            case rel => exact ⟨m + 1, by omega, by go_num, Y8, Z7.setOther _ _ (by simp; omega), B7.setCell (by simp) _⟩
            case measure => simp [intOf]; omega
        · obtain rfl : m = 4 := by omega
          go_wp2
          go_roundw
          case rel => exact ⟨k + 1, by omega, by go_num, by rw [show (k + 1) * 4 = k * 4 + 4 by omega]; exact Y, Z, B⟩
          case measure => simp [intOf]; omega
    · obtain rfl : k = 4 := by omega
      rw [show 4 * 4 = 16 from rfl, flatTo_all] at Y
      obtain ⟨x0, x1, x2, x3, y0, y1, y2, y3, z0, z1, z2, z3, v0, v1, v2, v3, hp⟩ := (opRows_sq (fun x y => x - y) q xss yss).lit
      rw [hp] at Y
      have HP : Hid (opRows (fun x y => x - y) q xss yss = [[x0, x1, x2, x3], [y0, y1, y2, y3], [z0, z1, z2, z3], [v0, v1, v2, v3]]) := hp
      clear hp HS HS2 HX HY HXB HYB HZ
      have Y' : Blk wr w.heap.size 85 #[.int .i64 x0, .int .i64 x1, .int .i64 x2, .int .i64 x3, .int .i64 y0, .int .i64 y1, .int .i64 y2, .int .i64 y3, .int .i64 z0, .int .i64 z1, .int .i64 z2, .int .i64 z3, .int .i64 v0, .int .i64 v1, .int .i64 v2, .int .i64 v3] := Y
      have ya := Y'.at.1
      have za := Z.at.1
      have zb := Z.at.2
      have OO : ∀ W, Off [w.heap.size + 1 + 1] wr W → (Ending.returned (.agg #[.int .i64 x0, .int .i64 x1, .int .i64 x2, .int .i64 x3, .int .i64 y0, .int .i64 y1, .int .i64 y2, .int .i64 y3, .int .i64 z0, .int .i64 z1, .int .i64 z2, .int .i64 z3, .int .i64 v0, .int .i64 v1, .int .i64 v2, .int .i64 v3]) = .returned (ag2 (opRows (fun x y => x - y) q xss yss)) ∧ Below w.heap.size w W) := fun W OO => ⟨by rw [HP.out]; rfl, B.trans (OO.toBelow B.size (by simp; omega))⟩
      clear Y Y' Z
      go_wp2
      exact bodyPost_ret (v := .agg #[.int .i64 x0, .int .i64 x1, .int .i64 x2, .int .i64 x3, .int .i64 y0, .int .i64 y1, .int .i64 y2, .int .i64 y3, .int .i64 z0, .int .i64 z1, .int .i64 z2, .int .i64 z3, .int .i64 v0, .int .i64 v1, .int .i64 v2, .int .i64 v3]) (by simp [results, Tryz.results122, go_sem, za]) rfl (OO _ ((((((((((((((((((Off.refl _ _).setCell _ _ (by simp)).setCell _ _ (by simp)).setCell _ _ (by simp)).setCell _ _ (by simp)).setCell _ _ (by simp)).setCell _ _ (by simp)).setCell _ _ (by simp)).setCell _ _ (by simp)).setCell _ _ (by simp)).setCell _ _ (by simp)).setCell _ _ (by simp)).setCell _ _ (by simp)).setCell _ _ (by simp)).setCell _ _ (by simp)).setCell _ _ (by simp)).setCell _ _ (by simp))))
end Go.Proofs.YtepobckhfodngaoGreat
