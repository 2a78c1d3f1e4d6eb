/-
  A part of a bit as a number, in the model.
-/
import Derived.Test.YtepobckhfodngaoGreatLf
import Derived.Test.YtepobckhfodngaoGreatPf
import Derived.Test.YtepobckhfodngaoGreatSpB
import Derived.Test.YtepobckhfodngaoGreatMirM
import Derived.Test.YtepobckhfodngaoGreatMirV
import Derived.Test.YtepobckhfodngaoGreatMirO
import Derived.Deep.Cut
namespace Go.Proofs.YtepobckhfodngaoGreat
open Go.ChangeShapes Go.WideShapes Go.ChangeAt Go.RowKit
set_option linter.unusedVariables false

theorem lfN_set (fs : List Int) {part i : Nat} (hi : i < 4) (hp : part < 4) : (lfN fs part i).set (i * 4 + part) (fs.getD (i * 4 + part) 0) = lfN fs part (i + 1) := by
  have := lfN_step fs hi hp
  rw [show 1 + i * 4 + part = (i * 4 + part) + 1 by omega, List.set_cons_succ] at this
  exact (List.cons.inj this).2
theorem lfN_same (fs : List Int) {part : Nat} (hp : part < 4) (h : fs.getD (part * 4 + part) 0 = 0) : lfN fs part part = lfN fs part (part + 1) := by
  unfold lfN
  refine List.map_congr_left (fun j hj => ?_)
  have hj : j < 16 := by simpa using hj
  by_cases k1 : j % 4 = part
  · by_cases k2 : j / 4 < part
    · rw [if_pos ⟨k2, k1⟩, if_pos ⟨by omega, k1⟩]
    · rw [if_neg (fun h => k2 h.1)]
      by_cases k3 : j / 4 < part + 1
      · rw [if_pos ⟨k3, k1⟩, show j = part * 4 + part by omega, h]
      · rw [if_neg (fun h => k3 h.1)]
  · rw [if_neg (fun h => k1 h.2), if_neg (fun h => k1 h.2)]
theorem lfN_zero' (fs : List Int) (part : Nat) : unflat (lfN fs part 0) = mirRows [0, 0, 0, 0] := by
  have : lfN fs part 0 = List.replicate 16 0 := by
    apply List.ext_getElem
    · simp [lfN]
    · intro j hj hj'
      rw [List.getElem_replicate]
      simp only [lfN, List.getElem_map, List.getElem_range]
      rw [if_neg (by omega)]
  rw [this]
  rfl
/-- what is answered -/
def lbR (x : MMirror) (part : Int) : MMirrorResult := if pfC 2 x part = 0 then ⟨0, ⟨256, unflat (lfF x.xViews.flatten part.toNat)⟩⟩ else badR (pfC 2 x part)
theorem lbR_ok {x : MMirror} {part : Nat} (h : pfC 2 x part = 0) : lbR x part = ⟨0, ⟨256, unflat (lfF x.xViews.flatten part)⟩⟩ := if_pos h
theorem lbR_bad {x : MMirror} {part c : Int} (h : pfC 2 x part = c) (k : c ≠ 0) : lbR x part = badR c := by
  subst h
  exact if_neg k
set_option maxHeartbeats 8000000 in
set_option maxRecDepth 100000 in
theorem spec_l9Lift (b0 : Nat) (xss : List (List Int)) (part : Nat) (w : World) (FX : Four w b0 2 xss) (hown : ∀ i, i < 4 → pt xss i i = 0) (hp : part < 4) :
    Calls Tryz.prog 86 #[.pointer (some ⟨b0, 0, none⟩), .int .i64 part] w fun e w' => ∃ u bx, e = .returned u ∧ OwMirror w' u ⟨256, unflat (lfF xss.flatten part)⟩ bx ∧ (∀ y ∈ bx, w.heap.size ≤ y) ∧ Below w.heap.size w w' := by
  obtain ⟨i1, gi, gz0, gz1, gz2⟩ := info_parts Tryz.infoI
  have hsq : Sq xss := by obtain ⟨_, _, _, h4, h5, _⟩ := FX; exact ⟨h4, h5⟩
  have HC : Hid (∀ i, i < 4 → ∃ gb off c g2 o2 d, ∀ W, Below w.heap.size w W → (∀ o, W.cell? ⟨b0, o, none⟩ = (#[.int .i64 2, .slice (some ⟨gb, off, none⟩) 4 c] : Array Value)[o]?) ∧ W.cell? ⟨gb, off + i, none⟩ = some (.slice (some ⟨g2, o2, none⟩) 4 d) ∧ W.cell? ⟨g2, o2 + part, none⟩ = some (.int .i64 (xss.flatten.getD (i * 4 + part) 0))) := fun i hi => by rw [flat_getD hsq i part hi hp]; exact FX.cellsAll i part hi hp
  have HST : Hid (∀ i, i < 4 → (lfN xss.flatten part i).set (i * 4 + part) (xss.flatten.getD (i * 4 + part) 0) = lfN xss.flatten part (i + 1)) := fun i hi => lfN_set _ hi hp
  have HSA : Hid (lfN xss.flatten part part = lfN xss.flatten part (part + 1)) := lfN_same _ hp (by rw [flat_getD hsq part part hp hp]; exact hown part hp)
  have HZE : Hid (unflat (lfN xss.flatten part 0) = mirRows [0, 0, 0, 0]) := lfN_zero' _ _
  have HEN : Hid (lfN xss.flatten part 4 = lfF xss.flatten part) := rfl
  have HP : Hid (part < 4) := hp
  have hk1 : (part : Int) < 4 := by omega
  have hk0 : (0 : Int) ≤ (part : Int) := by omega
  clear hown hp FX hsq
  generalize xss.flatten = fs at *
  have Y0 : Blk (w.alloc (.cells #[.int .i64 0, .slice none 0 0] 36)) w.heap.size 36 #[.int .i64 0, .slice none 0 0] := Blk.new w _ _
  have B0 : Below w.heap.size w (w.alloc (.cells #[.int .i64 0, .slice none 0 0] 36)) := (by repeat (first | exact Below.refl _ _ | refine Below.drew ?_ | refine below_drewN ?_ _ | refine Below.setCell ?_ (by first | omega | (simp; done) | (simp; omega)) _ | refine Below.alloc ?_ (by first | omega | (simp; done) | (simp; omega)) _))
  go_enter Tryz.func86, Tryz.ntmps86
  go_upto_region 1 with fail
  have z0 : Hid ((w.alloc (.cells #[.int .i64 0, .slice none 0 0] 36)).heap.size = w.heap.size + 1) := by show _ = _; simp
  generalize w.alloc (.cells #[.int .i64 0, .slice none 0 0] 36) = wq at *
  go_wp2_with (at_make; refine wpList_make_full _ rfl _ _ 25 rfl wq.heap.size 2 i1 (.int .i64 0) 1 Tryz.underlying25 gi gz0 gz1 _ _ _ _ 4 rfl rfl rfl rfl (by rw [gz2]; omega) (by unfold maxLen; omega) (Nat.le_refl _) ?_)
  intro w1 hown hgrow
  have hb1w : Below wq.heap.size wq w1 := (Below.refl _ _).grown hgrow (Nat.le_refl _) (fun k hk => by cases hk)
  have hrd : Reads w1 .i64 (.slice (some ⟨wq.heap.size, 0, none⟩) 4 4) [0, 0, 0, 0] := by
    obtain ⟨bs, h1, -⟩ := Own.of_owns hown
    have hc : (madeCells #[Value.int .i64 0] 4).toList = [.int .i64 0, .int .i64 0, .int .i64 0, .int .i64 0] := by kernel_rfl
    have h2 : Own w1 2 1 (.slice (some ⟨wq.heap.size, 0, none⟩) 4 4) 4 [.int .i64 0, .int .i64 0, .int .i64 0, .int .i64 0] bs := by rw [← hc]; simpa using h1
    exact Own.reads (xs := [0, 0, 0, 0]) (by simpa using h2)
  have Y1 := Y0.keep hb1w
  have B1 := B0.trans (hb1w.mono B0.size)
  have sz1 := hb1w.size
  clear hown hgrow Y0 B0
  go_wp2_with fail
  refine (spec_l3Of 256 _ [0, 0, 0, 0] w1 hrd rfl).mono ?_
  rintro e w2 ⟨u, bx, rfl, ⟨px, cx, rfl, hM⟩, hbx, hb2⟩
  have Y2 := Y1.keep hb2
  have B2 := B1.trans (hb2.mono B1.size)
  have sz2 := hb2.size
  clear Y1 B1 hrd hb1w hb2
  change Mat w2 (.slice px 4 cx) (mirRows [0, 0, 0, 0]) bx at hM
  have Zn := Blk.new w2 36 #[.int .i64 0, .slice none 0 0]
  have ltM := hM.lt
  have lY2 := Y2.lt
  have hml : (mirRows [0, 0, 0, 0]).length = 4 := rfl
  go_upto_region 2 with (refine wpList_store_blk rfl 36 _ _ rfl w2.heap.size #[.int .i64 256, .slice px 4 cx] rfl rfl Zn rfl (by kernel_rfl) (by kernel_rfl) ?_; intro w3 Z3 O3)
  have O3' : Off [w2.heap.size] w2 w3 := ((Off.refl _ _).alloc _).trans O3
  have Y3 := Y2.off O3' (by simp; omega)
  have B3 := B2.trans (O3'.toBelow B2.size (by have := B2.size; simp; omega))
  have M3 := hM.off O3' (fun y hy hm => by have := ltM y hy; simp at hm; omega)
  have N3 : MirIn w3 w2.heap.size 256 (lfN fs part 0) bx := ⟨_, Z3, by rw [HZE.out]; exact M3, fun h => by have := ltM _ h; omega⟩
  have hbx3 : ∀ y ∈ bx, w.heap.size < y := fun y hy => by have := hbx y hy; have := z0.out; omega
  have hgx : w.heap.size < w2.heap.size := lY2
  clear Zn O3 O3' Z3 M3 hM Y2 B2 hbx sz1 sz2 ltM hml lY2 z0
  generalize w2.heap.size = gx at *
  have P3 : Off bx w3 w3 := Off.refl _ _
  go_wp2
  go_loopw [6] (fun p wr => ∃ i : Nat, i ≤ 4 ∧ p = .int .i64 i ∧ MirIn wr gx 256 (lfN fs part i) bx ∧ Off bx w3 wr) (fun p _ => 4 - (intOf p).toNat)
  case atStart => exact ⟨0, Nat.zero_le _, rfl, N3, P3⟩
  case round =>
    clear N3 P3
    obtain ⟨i, hi, rfl, N, P⟩ := hrel
    by_cases hil : i < 4
    · have hi1 : (i : Int) < 4 := by omega
      have hi0 : (0 : Int) ≤ (i : Int) := by omega
      have HI4 : Hid (i < 4) := hil
      by_cases hip : i = part
      · have hne : ((i : Int) != (part : Int)) = false := by simp; omega
        have N1 : MirIn wr gx 256 (lfN fs part (i + 1)) bx := by rw [hip] at N ⊢; rw [← HSA.out]; exact N
        clear hip hil hi N
        go_wp2
        go_roundw
        case rel => exact ⟨i + 1, HI4.out, by go_num, N1, P⟩
        case measure => simp [intOf]; omega
      · have hne : ((i : Int) != (part : Int)) = true := by simp; omega
        obtain ⟨vx, Z, hM, nb⟩ := N
        obtain ⟨gv, cv, gr, cr, rfl, c1, mv, mr, ne, c2, hset⟩ := hM.part (lfN_len fs part i) i hil
        obtain ⟨gb, off, cb, g2, o2, d, hC⟩ := HC.out i hil
        have BW : Below w.heap.size w wr := B3.trans (P.toBelow B3.size (fun y hy => Nat.le_of_lt (hbx3 y hy)))
        have lgv := hM.lt _ mv
        have lgr := hM.lt _ mr
        have f3 := (c2 part HP.out).2
        have hbg : gx ≠ gr := fun h => nb (h ▸ mr)
        have lZ := Z.lt
        have HSET : Hid (∀ W : World, (∀ y ∈ bx, W.heap[y]? = wr.heap[y]?) → Mat (W.setCell ⟨gr, part, none⟩ (.int .i64 (fs.getD (i * 4 + part) 0))) (.slice (some ⟨gv, 0, none⟩) 4 cv) (unflat (lfN fs part (i + 1))) bx) := fun W hW => by have := hset W hW part (fs.getD (i * 4 + part) 0) HP.out; rwa [HST.out i HI4.out] at this
        have HSS : Hid (∀ V, Off [gr] wr V → (∀ o, V.cell? ⟨gx, o, none⟩ = (#[.int .i64 256, .slice (some ⟨gv, 0, none⟩) 4 cv] : Array Value)[o]?) ∧ V.cell? ⟨gv, i, none⟩ = some (.slice (some ⟨gr, 0, none⟩) 4 cr) ∧ (∀ o, V.cell? ⟨b0, o, none⟩ = (#[.int .i64 2, .slice (some ⟨gb, off, none⟩) 4 cb] : Array Value)[o]?) ∧ V.cell? ⟨gb, off + i, none⟩ = some (.slice (some ⟨g2, o2, none⟩) 4 d) ∧ V.cell? ⟨g2, o2 + part, none⟩ = some (.int .i64 (fs.getD (i * 4 + part) 0))) := fun V hV => ⟨(Z.off hV (by simp; exact hbg)).at.1, ((hV.at gv lgv (by simp; exact ne)).1 _).trans c1, hC V (BW.trans (hV.toBelow BW.size (fun y hy => by simp at hy; subst hy; exact Nat.le_of_lt (hbx3 _ mr))))⟩
        have HLT : Hid (∀ y ∈ bx, y < wr.heap.size) := hM.lt
        have HNB : Hid (gx ∉ bx) := nb
        have HMR : Hid (gr ∈ bx) := mr
        have c3 := (c2 part HP.out).1
        clear c1 c2 hset hC hip hil hi nb hM
        generalize fs.getD (i * 4 + part) 0 = vv at *
        generalize (lfN fs part i).getD (i * 4 + part) 0 = v0 at *
        go_wp2_with fail
        refine wp_region_held (S := fun V => (∀ o, V.cell? ⟨gx, o, none⟩ = (#[.int .i64 256, .slice (some ⟨gv, 0, none⟩) 4 cv] : Array Value)[o]?) ∧ V.cell? ⟨gv, i, none⟩ = some (.slice (some ⟨gr, 0, none⟩) 4 cr) ∧ (∀ o, V.cell? ⟨b0, o, none⟩ = (#[.int .i64 2, .slice (some ⟨gb, off, none⟩) 4 cb] : Array Value)[o]?) ∧ V.cell? ⟨gb, off + i, none⟩ = some (.slice (some ⟨g2, o2, none⟩) 4 d) ∧ V.cell? ⟨g2, o2 + part, none⟩ = some (.int .i64 vv)) (by kernel_rfl) ?_
        try (change wpAnyH _ _ _ _ _ _ _ _ (World.drew _))
        have bD : Below wr.heap.size wr wr.drew := (Below.refl _ _).drew
        have hS := HSS.out _ (Off.ofBelow bD)
        have szd : wr.drew.heap.size = wr.heap.size := rfl
        generalize wr.drew = w6 at *
        refine wpAnyH_take (i := 0) (v := ?vn1) rfl (by kernel_rfl) (by kernel_rfl) (by kernel_rfl) (fun _ _ _ h => h) (Or.inl ⟨by rfl, ?hn1⟩) hS ?rn1
        case hn1 => intro w' hSw; obtain ⟨s0, s1, s2, s3, s4⟩ := hSw; go_simp; (try with_reducible rfl)
        (try simp only [List.getElem_toArray]); (try simp only [List.getElem_cons_succ]); (try simp only [List.getElem_cons_zero]); (try simp only [Act.put]); (try simp only [List.setIfInBounds_toArray]); (try simp only [List.set_cons_succ]); (try simp only [List.set_cons_zero])
        refine wpAnyH_take (i := 1) (v := ?vn2) rfl (by kernel_rfl) (by kernel_rfl) (by kernel_rfl) (fun _ _ _ h => h) (Or.inl ⟨by rfl, ?hn2⟩) hS ?rn2
        case hn2 => intro w' hSw; obtain ⟨s0, s1, s2, s3, s4⟩ := hSw; go_simp; (try with_reducible rfl)
        (try simp only [List.getElem_toArray]); (try simp only [List.getElem_cons_succ]); (try simp only [List.getElem_cons_zero]); (try simp only [Act.put]); (try simp only [List.setIfInBounds_toArray]); (try simp only [List.set_cons_succ]); (try simp only [List.set_cons_zero])
        refine wpAnyH_take (i := 2) (v := ?vn3) rfl (by kernel_rfl) (by kernel_rfl) (by kernel_rfl) (fun _ _ _ h => h) (Or.inl ⟨by rfl, ?hn3⟩) hS ?rn3
        case hn3 => intro w' hSw; obtain ⟨s0, s1, s2, s3, s4⟩ := hSw; go_simp; (try with_reducible rfl)
        (try simp only [List.getElem_toArray]); (try simp only [List.getElem_cons_succ]); (try simp only [List.getElem_cons_zero]); (try simp only [Act.put]); (try simp only [List.setIfInBounds_toArray]); (try simp only [List.set_cons_succ]); (try simp only [List.set_cons_zero])
        refine wpAnyH_take (i := 3) (v := ?vn4) rfl (by kernel_rfl) (by kernel_rfl) (by kernel_rfl) (fun _ _ _ h => h) (Or.inl ⟨by rfl, ?hn4⟩) hS ?rn4
        case hn4 => intro w' hSw; obtain ⟨s0, s1, s2, s3, s4⟩ := hSw; go_simp; (try with_reducible rfl)
        (try simp only [List.getElem_toArray]); (try simp only [List.getElem_cons_succ]); (try simp only [List.getElem_cons_zero]); (try simp only [Act.put]); (try simp only [List.setIfInBounds_toArray]); (try simp only [List.set_cons_succ]); (try simp only [List.set_cons_zero])
        refine wpAnyH_take (i := 4) (v := ?vn5) rfl (by kernel_rfl) (by kernel_rfl) (by kernel_rfl) (fun _ _ _ h => h) (Or.inl ⟨by rfl, ?hn5⟩) hS ?rn5
        case hn5 => intro w' hSw; obtain ⟨s0, s1, s2, s3, s4⟩ := hSw; go_simp; (try with_reducible rfl)
        (try simp only [List.getElem_toArray]); (try simp only [List.getElem_cons_succ]); (try simp only [List.getElem_cons_zero]); (try simp only [Act.put]); (try simp only [List.setIfInBounds_toArray]); (try simp only [List.set_cons_succ]); (try simp only [List.set_cons_zero])
        refine wpAnyH_take (i := 5) (v := ?vn6) rfl (by kernel_rfl) (by kernel_rfl) (by kernel_rfl) (fun _ _ _ h => h) (Or.inl ⟨by rfl, ?hn6⟩) hS ?rn6
        case hn6 => intro w' hSw; obtain ⟨s0, s1, s2, s3, s4⟩ := hSw; go_simp; (try with_reducible rfl)
        (try simp only [List.getElem_toArray]); (try simp only [List.getElem_cons_succ]); (try simp only [List.getElem_cons_zero]); (try simp only [Act.put]); (try simp only [List.setIfInBounds_toArray]); (try simp only [List.set_cons_succ]); (try simp only [List.set_cons_zero])
        refine wpAnyH_take (i := 6) (v := ?vn7) rfl (by kernel_rfl) (by kernel_rfl) (by kernel_rfl) (fun _ _ _ h => h) (Or.inl ⟨by rfl, ?hn7⟩) hS ?rn7
        case hn7 => intro w' hSw; obtain ⟨s0, s1, s2, s3, s4⟩ := hSw; go_simp; (try with_reducible rfl)
        (try simp only [List.getElem_toArray]); (try simp only [List.getElem_cons_succ]); (try simp only [List.getElem_cons_zero]); (try simp only [Act.put]); (try simp only [List.setIfInBounds_toArray]); (try simp only [List.set_cons_succ]); (try simp only [List.set_cons_zero])
        refine wpAnyH_take (i := 7) (v := ?vn8) rfl (by kernel_rfl) (by kernel_rfl) (by kernel_rfl) (fun _ _ _ h => h) (Or.inl ⟨by rfl, ?hn8⟩) hS ?rn8
        case hn8 => intro w' hSw; obtain ⟨s0, s1, s2, s3, s4⟩ := hSw; go_simp; (try with_reducible rfl)
        (try simp only [List.getElem_toArray]); (try simp only [List.getElem_cons_succ]); (try simp only [List.getElem_cons_zero]); (try simp only [Act.put]); (try simp only [List.setIfInBounds_toArray]); (try simp only [List.set_cons_succ]); (try simp only [List.set_cons_zero])
        refine wpAnyH_take (i := 8) (v := ?vn9) rfl (by kernel_rfl) (by kernel_rfl) (by kernel_rfl) (fun _ _ _ h => h) (Or.inl ⟨by rfl, ?hn9⟩) hS ?rn9
        case hn9 => intro w' hSw; obtain ⟨s0, s1, s2, s3, s4⟩ := hSw; go_simp; (try with_reducible rfl)
        (try simp only [List.getElem_toArray]); (try simp only [List.getElem_cons_succ]); (try simp only [List.getElem_cons_zero]); (try simp only [Act.put]); (try simp only [List.setIfInBounds_toArray]); (try simp only [List.set_cons_succ]); (try simp only [List.set_cons_zero])
        refine wpAnyH_take (i := 9) (v := ?vn10) rfl (by kernel_rfl) (by kernel_rfl) (by kernel_rfl) (fun _ _ _ h => h) (Or.inl ⟨by rfl, ?hn10⟩) hS ?rn10
        case hn10 => intro w' hSw; obtain ⟨s0, s1, s2, s3, s4⟩ := hSw; go_simp; (try with_reducible rfl)
        (try simp only [List.getElem_toArray]); (try simp only [List.getElem_cons_succ]); (try simp only [List.getElem_cons_zero]); (try simp only [Act.put]); (try simp only [List.setIfInBounds_toArray]); (try simp only [List.set_cons_succ]); (try simp only [List.set_cons_zero])
        refine wpAnyH_take (i := 10) (v := ?vn11) rfl (by kernel_rfl) (by kernel_rfl) (by kernel_rfl) (fun _ _ _ h => h) (Or.inl ⟨by rfl, ?hn11⟩) hS ?rn11
        case hn11 => intro w' hSw; obtain ⟨s0, s1, s2, s3, s4⟩ := hSw; go_simp; (try with_reducible rfl)
        (try simp only [List.getElem_toArray]); (try simp only [List.getElem_cons_succ]); (try simp only [List.getElem_cons_zero]); (try simp only [Act.put]); (try simp only [List.setIfInBounds_toArray]); (try simp only [List.set_cons_succ]); (try simp only [List.set_cons_zero])
        refine wpAnyH_take (i := 11) (v := ?vn12) rfl (by kernel_rfl) (by kernel_rfl) (by kernel_rfl) (fun _ _ _ h => h) (Or.inl ⟨by rfl, ?hn12⟩) hS ?rn12
        case hn12 => intro w' hSw; obtain ⟨s0, s1, s2, s3, s4⟩ := hSw; go_simp; (try with_reducible rfl)
        (try simp only [List.getElem_toArray]); (try simp only [List.getElem_cons_succ]); (try simp only [List.getElem_cons_zero]); (try simp only [Act.put]); (try simp only [List.setIfInBounds_toArray]); (try simp only [List.set_cons_succ]); (try simp only [List.set_cons_zero])
        refine wpAnyH_take (i := 12) (v := ?vn13) rfl (by kernel_rfl) (by kernel_rfl) (by kernel_rfl) (fun _ _ _ h => h) (Or.inl ⟨by rfl, ?hn13⟩) hS ?rn13
        case hn13 => intro w' hSw; obtain ⟨s0, s1, s2, s3, s4⟩ := hSw; go_simp; (try with_reducible rfl)
        (try simp only [List.getElem_toArray]); (try simp only [List.getElem_cons_succ]); (try simp only [List.getElem_cons_zero]); (try simp only [Act.put]); (try simp only [List.setIfInBounds_toArray]); (try simp only [List.set_cons_succ]); (try simp only [List.set_cons_zero])
        refine wpAnyH_take (i := 13) (v := ?vn14) rfl (by kernel_rfl) (by kernel_rfl) (by kernel_rfl) (fun _ _ _ h => h) (Or.inl ⟨by rfl, ?hn14⟩) hS ?rn14
        case hn14 => intro w' hSw; obtain ⟨s0, s1, s2, s3, s4⟩ := hSw; go_simp; (try with_reducible rfl)
        (try simp only [List.getElem_toArray]); (try simp only [List.getElem_cons_succ]); (try simp only [List.getElem_cons_zero]); (try simp only [Act.put]); (try simp only [List.setIfInBounds_toArray]); (try simp only [List.set_cons_succ]); (try simp only [List.set_cons_zero])
        refine wpAnyH_take (i := 14) (v := ?vn15) rfl (by kernel_rfl) (by kernel_rfl) (by kernel_rfl) (fun _ _ _ h => h) (Or.inl ⟨by rfl, ?hn15⟩) hS ?rn15
        case hn15 => intro w' hSw; obtain ⟨s0, s1, s2, s3, s4⟩ := hSw; go_simp; (try with_reducible rfl)
        (try simp only [List.getElem_toArray]); (try simp only [List.getElem_cons_succ]); (try simp only [List.getElem_cons_zero]); (try simp only [Act.put]); (try simp only [List.setIfInBounds_toArray]); (try simp only [List.set_cons_succ]); (try simp only [List.set_cons_zero])
        refine wpAnyH_take (i := 15) (v := ?vn16) rfl (by kernel_rfl) (by kernel_rfl) (by kernel_rfl) (fun _ _ _ h => h) (Or.inl ⟨by rfl, ?hn16⟩) hS ?rn16
        case hn16 => intro w' hSw; obtain ⟨s0, s1, s2, s3, s4⟩ := hSw; go_simp; (try with_reducible rfl)
        (try simp only [List.getElem_toArray]); (try simp only [List.getElem_cons_succ]); (try simp only [List.getElem_cons_zero]); (try simp only [Act.put]); (try simp only [List.setIfInBounds_toArray]); (try simp only [List.set_cons_succ]); (try simp only [List.set_cons_zero])
        refine wpAnyH_take (i := 16) (v := ?vn17) rfl (by kernel_rfl) (by kernel_rfl) (by kernel_rfl) (fun _ _ _ h => h) (Or.inl ⟨by rfl, ?hn17⟩) hS ?rn17
        case hn17 => intro w' hSw; obtain ⟨s0, s1, s2, s3, s4⟩ := hSw; go_simp; (try with_reducible rfl)
        (try simp only [List.getElem_toArray]); (try simp only [List.getElem_cons_succ]); (try simp only [List.getElem_cons_zero]); (try simp only [Act.put]); (try simp only [List.setIfInBounds_toArray]); (try simp only [List.set_cons_succ]); (try simp only [List.set_cons_zero])
        have cE : w6.cell? ⟨gr, part, none⟩ = some _ := (bD.cell (p := ⟨gr, part, none⟩) lgr).trans c3
        have fE : w6.frozen? ⟨gr, part, none⟩ = false := (bD.frozen (p := ⟨gr, part, none⟩) lgr).trans f3
        refine wpAnyH_ready (rs := [17]) (by kernel_rfl) (by simp) ?_
        refine AllReadyH.cons (o := _) rfl (fun K hK => ?_) AllReadyH.nil
        rw [if_pos (by rfl)]
        go_simp
        have O7 : Off [gr] wr (w6.setCell ⟨gr, part, none⟩ (.int .i64 vv)) := (Off.ofBelow bD).setCell _ _ (.inl (by simp))
        refine hK.out _ _ (HSS.out _ O7) (fun hS => ?_)
        clear hK K
        (try simp only [List.getElem_toArray]); (try simp only [List.getElem_cons_succ]); (try simp only [List.getElem_cons_zero]); (try simp only [Act.put]); (try simp only [List.setIfInBounds_toArray]); (try simp only [List.set_cons_succ]); (try simp only [List.set_cons_zero])
        refine wpAnyH_done (by kernel_rfl) ?_ _
        clear hS
        have M7 := HSET.out w6 (fun y hy => bD.block y (HLT.out y hy))
        have N7 : MirIn (w6.setCell ⟨gr, part, none⟩ (.int .i64 vv)) gx 256 (lfN fs part (i + 1)) bx := ⟨_, Z.off O7 (by simp; exact hbg), M7, HNB.out⟩
        have P7 := P.trans (O7.mono (fun y hy => by simp at hy; subst hy; exact HMR.out))
        clear cE fE M7 O7 Z P bD
        generalize w6.setCell ⟨gr, part, none⟩ (.int .i64 vv) = w7 at *
        go_wp2
        go_roundw
        case rel => exact ⟨i + 1, HI4.out, by go_num, N7, P7⟩
        case measure => simp [intOf]; omega
    · obtain rfl : i = 4 := by omega
      rw [HEN.out] at N
      obtain ⟨vx, Z, hM, nb⟩ := N
      obtain ⟨pv, cv, rfl⟩ := hM.value
      change Blk wr gx 36 #[.int .i64 256, .slice pv 4 cv] at Z
      change Mat wr (.slice pv 4 cv) (unflat (lfF fs part)) bx at hM
      have Y5 := Y3.off P (fun hm => by have := hbx3 _ hm; omega)
      have B5 := B3.trans (P.toBelow B3.size (fun y hy => Nat.le_of_lt (hbx3 y hy)))
      clear Y3 B3 P hil hi
      go_wp2_with (first | (refine wpList_load_blk rfl 36 _ rfl gx rfl Z Tryz.underlying36 rfl (by kernel_rfl) ?_) | (refine wpList_store_blk rfl 36 _ _ rfl w.heap.size #[.int .i64 256, .slice pv 4 cv] rfl rfl Y5 rfl (by kernel_rfl) (by kernel_rfl) ?_; intro w9 R9 O9))
      exact bodyPost_ret (v := .agg #[.int .i64 256, .slice pv 4 cv]) (results_blk Tryz.results86 rfl R9 Tryz.underlying36 rfl (by kernel_rfl)) rfl ⟨_, bx, rfl, ⟨pv, cv, rfl, hM.off O9 (fun y hy hm => by have := hbx3 y hy; simp at hm; omega)⟩, fun y hy => Nat.le_of_lt (hbx3 y hy), B5.trans (O9.toBelow B5.size (by simp))⟩
theorem lbR_cnt (x : MMirror) (part : Int) : cntMirrorResult (lbR x part) ≤ 268435456 := by
  by_cases h : pfC 2 x part = 0
  · unfold lbR
    rw [if_pos h]
    show cntMirrorResult ⟨0, ⟨256, unflat (lfF x.xViews.flatten part.toNat)⟩⟩ ≤ 268435456
    have : cntMirrorResult ⟨0, ⟨256, unflat (lfF x.xViews.flatten part.toNat)⟩⟩ = 16 := rfl
    omega
  · unfold lbR
    rw [if_neg h]
    show cntMirrorResult ⟨pfC 2 x part, ⟨0, []⟩⟩ ≤ 268435456
    have : cntMirrorResult ⟨pfC 2 x part, ⟨0, []⟩⟩ = 0 := rfl
    omega

end Go.Proofs.YtepobckhfodngaoGreat
