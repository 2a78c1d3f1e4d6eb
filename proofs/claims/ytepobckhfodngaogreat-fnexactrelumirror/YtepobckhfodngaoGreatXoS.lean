/-
  Two bits' sum in the ring, in the model: the product told, then twice it taken off.
-/
import Derived.Test.YtepobckhfodngaoGreatXoP
import Derived.Test.YtepobckhfodngaoGreatMirM
import Derived.Test.YtepobckhfodngaoGreatMirY
namespace Go.Proofs.YtepobckhfodngaoGreat
open Go.ChangeShapes Go.WideShapes Go.ChangeAt Go.RowKit
set_option linter.unusedVariables false

theorem xo_pt (f : Int → Int → Int) (q : Int) (xss yss : List (List Int)) (i k : Nat) (hi : i < 4) (hk : k < 4) : pt (opRows f q xss yss) i k = f (pt xss i k) (pt yss i k) % q := by
  have e : (opRows f q xss yss).getD i [] = (List.range 4).map fun (k : Nat) => f (pt xss i k) (pt yss i k) % q := by simp [opRows, hi]
  show ((opRows f q xss yss).getD i []).getD k 0 = _
  rw [e]
  simp [hk]
theorem xo_mix (xss yss : List (List Int)) (fs : List Int) : mixRows 256 (mixRows 256 xss yss 1) (unflat fs) (-2) = xoV xss yss fs := by
  rw [mixRows_add, mixRows_op]
  show opRows _ 256 (xoA xss yss) (unflat fs) = opRows _ 256 (xoA xss yss) (xoB fs)
  generalize xoA xss yss = A
  have hp : ∀ i k, i < 4 → k < 4 → pt (xoB fs) i k = (pt (unflat fs) i k + pt (unflat fs) i k) % 256 := fun i k hi hk => xo_pt _ 256 _ _ i k hi hk
  unfold opRows
  refine List.map_congr_left (fun i hi => List.map_congr_left (fun k hk => ?_))
  rw [hp i k (by simpa using hi) (by simpa using hk)]
  generalize pt (unflat fs) i k = p
  generalize pt A i k = q
  show (q + -2 * p) % 256 = (q - (p + p) % 256) % 256
  omega
theorem xo_flat {xss : List (List Int)} (h : Sq xss) : unflat xss.flatten = xss := by
  obtain ⟨a0, a1, a2, a3, b0, b1, b2, b3, c0, c1, c2, c3, d0, d1, d2, d3, rfl⟩ := h.lit
  rfl
def XoMid (w wr : World) (b0 : Nat) (bs bm cs : List Nat) (g : Nat) (x2 : MNet) (fs : List Int) (p : Option Addr) (c : Nat) : Prop :=
  Blk wr w.heap.size 36 #[.int .i64 0, .slice none 0 0] ∧ Blk wr g 36 #[.int .i64 (mOf x2.xQuarrel.xSome 256 fs).xQ, .slice p (mOf x2.xQuarrel.xSome 256 fs).xViews.length c] ∧ Mat wr (.slice p (mOf x2.xQuarrel.xSome 256 fs).xViews.length c) (mOf x2.xQuarrel.xSome 256 fs).xViews bm ∧ (∀ y ∈ bm, w.heap.size < y ∧ y ∉ cs) ∧ w.heap.size < g ∧ NetIn wr b0 x2 cs ∧ (∀ y ∈ cs, y ∈ bs ∨ w.heap.size < y) ∧ Off (b0 :: bs) w wr
set_option maxHeartbeats 8000000 in
set_option maxRecDepth 100000 in
theorem spec_l5Xor (b0 b1 b2 : Nat) (pa pb : Option Addr) (ca cb : Nat) (x : MNet) (bs : List Nat) (m : Nat) (a b : MMirror) (w : World) (N : NetIn w b0 x bs) (B : NetB m x) (hm : m ≤ 199970) (hq0 : x.xQuarrel.xSome = false)
    (FA : ∀ W, Off (b0 :: bs) w W → Blk W b1 36 #[.int .i64 256, .slice pa a.xViews.length ca] ∧ ReadsM W (.slice pa a.xViews.length ca) a.xViews) (FB : ∀ W, Off (b0 :: bs) w W → Blk W b2 36 #[.int .i64 256, .slice pb b.xViews.length cb] ∧ ReadsM W (.slice pb b.xViews.length cb) b.xViews) (ea : a.xQ = 256) (eb : b.xQ = 256) (R : RowOk 256 1 [a] [b]) :
    Calls Tryz.prog 87 #[.pointer (some ⟨b0, 0, none⟩), .pointer (some ⟨b1, 0, none⟩), .pointer (some ⟨b2, 0, none⟩)] w fun e w' => ∃ cs p c bm, e = .returned (.tuple #[.agg #[.int .i64 (mOf (xoX x a b).xQuarrel.xSome 256 (xoF x a b)).xQ, .slice p (mOf (xoX x a b).xQuarrel.xSome 256 (xoF x a b)).xViews.length c], .bool (!(xoX x a b).xQuarrel.xSome)]) ∧ Mat w' (.slice p (mOf (xoX x a b).xQuarrel.xSome 256 (xoF x a b)).xViews.length c) (mOf (xoX x a b).xQuarrel.xSome 256 (xoF x a b)).xViews bm ∧ (∀ y ∈ bm, w.heap.size ≤ y ∧ y ∉ cs) ∧ NetIn w' b0 (xoX x a b) cs ∧ (∀ y ∈ cs, y ∈ bs ∨ w.heap.size ≤ y) ∧ Off (b0 :: bs) w w' := by
  have KD := fun W (hN : NetIn W b0 x bs) v u hv hu => spec_l5DotO 256 v u 1 [a] [b] b0 x bs m W hN B hm hq0 hv hu R ea
  have sa : Sq a.xViews := R.sx 0 (by omega)
  have sb : Sq b.xViews := R.sy 0 (by omega)
  have ba : ∀ i j, 0 ≤ pt a.xViews i j ∧ pt a.xViews i j < 256 := R.bx 0
  have bb : ∀ i j, 0 ≤ pt b.xViews i j ∧ pt b.xViews i j < 256 := R.by' 0
  have hfs : Ok16 256 (dotS 256 (vsOf [a]) (vsOf [b]) 1 x) := (dot_ok (.inr rfl) (vsOf [a]) (vsOf [b]) 1 B).2
  have HM1 : Hid (mOf false 256 (xoF x a b) = ⟨256, mixRows 256 (mixRows 256 a.xViews b.xViews 1) (unflat (dotS 256 (vsOf [a]) (vsOf [b]) 1 x)) (-2)⟩) := by show _ = _; rw [xo_mix, mOf_on]; unfold xoF; rw [xo_flat (xss := xoV a.xViews b.xViews _) (opRows_sq _ _ _ _)]
  have ex : xoX x a b = dotX 256 (vsOf [a]) (vsOf [b]) 1 x := rfl
  rw [ex]
  have HE : Hid (a.xQ = 256 ∧ b.xQ = 256) := ⟨ea, eb⟩
  clear ex hq0 R B ea eb
  generalize xoF x a b = FF at *
  generalize dotX 256 (vsOf [a]) (vsOf [b]) 1 x = x2 at *
  generalize dotS 256 (vsOf [a]) (vsOf [b]) 1 x = fs at *
  have HSA : Hid (Sq a.xViews ∧ Sq b.xViews) := ⟨sa, sb⟩
  have HBA : Hid ((∀ i j, 0 ≤ pt a.xViews i j ∧ pt a.xViews i j < 256) ∧ ∀ i j, 0 ≤ pt b.xViews i j ∧ pt b.xViews i j < 256) := ⟨ba, bb⟩
  have HFS : Hid (Ok16 256 fs) := hfs
  clear sa sb ba bb hfs
  have HA : Hid (∀ W, Off (b0 :: bs) w W → Blk W b1 36 #[.int .i64 256, .slice pa a.xViews.length ca] ∧ ReadsM W (.slice pa a.xViews.length ca) a.xViews) := FA
  have HB : Hid (∀ W, Off (b0 :: bs) w W → Blk W b2 36 #[.int .i64 256, .slice pb b.xViews.length cb] ∧ ReadsM W (.slice pb b.xViews.length cb) b.xViews) := FB
  clear FA FB
  have HS : Hid (∀ W, Off (b0 :: bs) w W → (∀ o, W.cell? ⟨b1, o, none⟩ = (#[.int .i64 256, .slice pa a.xViews.length ca] : Array Value)[o]?) ∧ (∀ o, W.cell? ⟨b2, o, none⟩ = (#[.int .i64 256, .slice pb b.xViews.length cb] : Array Value)[o]?)) := fun W h => ⟨(HA.out W h).1.at.1, (HB.out W h).1.at.1⟩
  have lN := N.lt
  have lNs := N.lts
  have P1 : Off (b0 :: bs) w (w.alloc (.cells #[.int .i64 0, .slice none 0 0] 36)) := Off.ofBelow (by repeat (first | exact Below.refl _ _ | refine Below.drew ?_ | refine below_drewN ?_ _ | refine Below.setCell ?_ (by first | omega | (simp; done) | (simp; omega)) _ | refine Below.alloc ?_ (by first | omega | (simp; done) | (simp; omega)) _))
  have Y1 := Blk.new w 36 #[.int .i64 0, .slice none 0 0]
  have N1 := N.keep ((by repeat (first | exact Below.refl _ _ | refine Below.drew ?_ | refine below_drewN ?_ _ | refine Below.setCell ?_ (by first | omega | (simp; done) | (simp; omega)) _ | refine Below.alloc ?_ (by first | omega | (simp; done) | (simp; omega)) _)) : Below w.heap.size w (w.alloc (.cells #[.int .i64 0, .slice none 0 0] 36)))
  clear N
  go_enter Tryz.func87, Tryz.ntmps87
  go_wp2_with fail
  go_cut [8, 9] from 11 (fun u s wr => ∃ g p c bm cs, u = .pointer (some ⟨g, 0, none⟩) ∧ s = .bool (!x2.xQuarrel.xSome) ∧ XoMid w wr b0 bs bm cs g x2 fs p c)
  case first =>
    refine wp_region_held (S := fun V => (∀ o, V.cell? ⟨b1, o, none⟩ = (#[.int .i64 256, .slice pa a.xViews.length ca] : Array Value)[o]?) ∧ (∀ o, V.cell? ⟨b2, o, none⟩ = (#[.int .i64 256, .slice pb b.xViews.length cb] : Array Value)[o]?)) (by kernel_rfl) ?_
    try (change wpAnyH _ _ _ _ _ _ _ _ (World.drew _))
    have P := P1.drew
    have Y := Y1.drew
    have N2 := N1.drew
    clear P1 Y1 N1
    have zz : w.heap.size < (w.alloc (.cells #[.int .i64 0, .slice none 0 0] 36)).drew.heap.size := by simp
    have hS := HS.out _ P
    generalize (w.alloc (.cells #[.int .i64 0, .slice none 0 0] 36)).drew = v0 at *
    refine wpAnyH_take (i := 0) (v := ?vn1) rfl (by kernel_rfl) (by kernel_rfl) (by kernel_rfl) (fun _ _ _ h => h) (Or.inl ⟨by rfl, ?hn1⟩) hS ?rn1
    case hn1 => intro w' hSw; go_simp; (try with_reducible rfl)
    (try simp only [List.getElem_toArray]); (try simp only [List.getElem_cons_succ]); (try simp only [List.getElem_cons_zero]); (try simp only [Act.put]); (try simp only [List.setIfInBounds_toArray]); (try simp only [List.set_cons_succ]); (try simp only [List.set_cons_zero])
    refine wpAnyH_take (i := 1) (v := ?vn2) rfl (by kernel_rfl) (by kernel_rfl) (by kernel_rfl) (fun _ _ _ h => h) (Or.inl ⟨by rfl, ?hn2⟩) hS ?rn2
    case hn2 => intro w' hSw; go_simp; (try with_reducible rfl)
    (try simp only [List.getElem_toArray]); (try simp only [List.getElem_cons_succ]); (try simp only [List.getElem_cons_zero]); (try simp only [Act.put]); (try simp only [List.setIfInBounds_toArray]); (try simp only [List.set_cons_succ]); (try simp only [List.set_cons_zero])
    refine wpAnyH_take (i := 2) (v := ?vn3) rfl (by kernel_rfl) (by kernel_rfl) (by kernel_rfl) (fun _ _ _ h => h) (Or.inl ⟨by rfl, ?hn3⟩) hS ?rn3
    case hn3 => intro w' hSw; go_simp; (try with_reducible rfl)
    (try simp only [List.getElem_toArray]); (try simp only [List.getElem_cons_succ]); (try simp only [List.getElem_cons_zero]); (try simp only [Act.put]); (try simp only [List.setIfInBounds_toArray]); (try simp only [List.set_cons_succ]); (try simp only [List.set_cons_zero])
    refine wpAnyH_take (i := 3) (v := ?vn4) rfl (by kernel_rfl) (by kernel_rfl) (by kernel_rfl) (fun _ _ _ h => h) (Or.inl ⟨by rfl, ?hn4⟩) hS ?rn4
    case hn4 => intro w' hSw; go_simp; (try with_reducible rfl)
    (try simp only [List.getElem_toArray]); (try simp only [List.getElem_cons_succ]); (try simp only [List.getElem_cons_zero]); (try simp only [Act.put]); (try simp only [List.setIfInBounds_toArray]); (try simp only [List.set_cons_succ]); (try simp only [List.set_cons_zero])
    refine wpAnyH_take (i := 5) (v := ?vn5) rfl (by kernel_rfl) (by kernel_rfl) (by kernel_rfl) (fun _ _ _ h => h) (Or.inl ⟨by rfl, ?hn5⟩) hS ?rn5
    case hn5 => intro w' hSw; go_simp; (try with_reducible rfl)
    (try simp only [List.getElem_toArray]); (try simp only [List.getElem_cons_succ]); (try simp only [List.getElem_cons_zero]); (try simp only [Act.put]); (try simp only [List.setIfInBounds_toArray]); (try simp only [List.set_cons_succ]); (try simp only [List.set_cons_zero])
    refine wpAnyH_take (i := 6) (v := ?vn6) rfl (by kernel_rfl) (by kernel_rfl) (by kernel_rfl) (fun _ _ _ h => h) (Or.inl ⟨by rfl, ?hn6⟩) hS ?rn6
    case hn6 => intro w' hSw; go_simp; (try with_reducible rfl)
    (try simp only [List.getElem_toArray]); (try simp only [List.getElem_cons_succ]); (try simp only [List.getElem_cons_zero]); (try simp only [Act.put]); (try simp only [List.setIfInBounds_toArray]); (try simp only [List.set_cons_succ]); (try simp only [List.set_cons_zero])
    refine wpAnyH_take (i := 7) (v := ?vn7) rfl (by kernel_rfl) (by kernel_rfl) (by kernel_rfl) (fun _ _ _ h => h) (Or.inl ⟨by rfl, ?hn7⟩) hS ?rn7
    case hn7 => intro w' hSw; go_simp; (try with_reducible rfl)
    (try simp only [List.getElem_toArray]); (try simp only [List.getElem_cons_succ]); (try simp only [List.getElem_cons_zero]); (try simp only [Act.put]); (try simp only [List.setIfInBounds_toArray]); (try simp only [List.set_cons_succ]); (try simp only [List.set_cons_zero])
    refine wpAnyH_ready (rs := [4, 8, 13]) (by kernel_rfl) (by simp) ?_
    refine AllReadyH.cons (o := _) rfl (fun K hK => ?_) (AllReadyH.cons (o := _) rfl (fun K hK => ?_) (AllReadyH.cons (o := _) rfl (fun K hK => ?_) (AllReadyH.nil)))
    · skip
      rw [if_pos (by rfl)]
      go_simp
      have SA := Blk.new v0 36 #[.int .i64 256, .slice pa a.xViews.length ca]
      have zv1 : v0.heap.size < (v0.alloc (.cells #[.int .i64 256, .slice pa a.xViews.length ca] 36)).heap.size := by simp
      replace P := P.alloc (.cells #[.int .i64 256, .slice pa a.xViews.length ca] 36)
      replace Y := Y.alloc (.cells #[.int .i64 256, .slice pa a.xViews.length ca] 36)
      replace N2 := N2.alloc (.cells #[.int .i64 256, .slice pa a.xViews.length ca] 36)
      have zgA : w.heap.size < v0.heap.size := by omega
      refine hK.out _ _ (HS.out _ P) (fun hS => ?_)
      clear hK K
      (try simp only [List.getElem_toArray]); (try simp only [List.getElem_cons_succ]); (try simp only [List.getElem_cons_zero]); (try simp only [Act.put]); (try simp only [List.setIfInBounds_toArray]); (try simp only [List.set_cons_succ]); (try simp only [List.set_cons_zero])
      generalize v0.alloc (.cells #[.int .i64 256, .slice pa a.xViews.length ca] 36) = v1 at *
      generalize v0.heap.size = gA at *
      refine wpAnyH_ready (rs := [8, 13]) (by kernel_rfl) (by simp) ?_
      refine AllReadyH.cons (o := _) rfl (fun K hK => ?_) (AllReadyH.cons (o := _) rfl (fun K hK => ?_) (AllReadyH.nil))
      · skip
        rw [if_pos (by rfl)]
        go_simp
        have SB := Blk.new v1 36 #[.int .i64 256, .slice pb b.xViews.length cb]
        have zv2 : v1.heap.size < (v1.alloc (.cells #[.int .i64 256, .slice pb b.xViews.length cb] 36)).heap.size := by simp
        replace P := P.alloc (.cells #[.int .i64 256, .slice pb b.xViews.length cb] 36)
        replace Y := Y.alloc (.cells #[.int .i64 256, .slice pb b.xViews.length cb] 36)
        replace N2 := N2.alloc (.cells #[.int .i64 256, .slice pb b.xViews.length cb] 36)
        replace SA := SA.alloc (.cells #[.int .i64 256, .slice pb b.xViews.length cb] 36)
        have zgB : w.heap.size < v1.heap.size := by omega
        refine hK.out _ _ (HS.out _ P) (fun hS => ?_)
        clear hK K
        (try simp only [List.getElem_toArray]); (try simp only [List.getElem_cons_succ]); (try simp only [List.getElem_cons_zero]); (try simp only [Act.put]); (try simp only [List.setIfInBounds_toArray]); (try simp only [List.set_cons_succ]); (try simp only [List.set_cons_zero])
        generalize v1.alloc (.cells #[.int .i64 256, .slice pb b.xViews.length cb] 36) = v2 at *
        generalize v1.heap.size = gB at *
        refine wpAnyH_ready (rs := [9, 13]) (by kernel_rfl) (by simp) ?_
        refine AllReadyH.cons (o := _) rfl (fun K hK => ?_) (AllReadyH.cons (o := _) rfl (fun K hK => ?_) (AllReadyH.nil))
        · skip
          rw [if_pos (by rfl)]
          go_simp
          go_at_call 64
          clear hS
          have hlt := fun y hy => lNs y hy
          refine (KD _ N2 _ _ (fun V h => RdMirrorS.one (m := a) (by rw [HE.out.1]; exact SA.off h (by simp only [List.mem_cons, not_or]; exact ⟨by omega, fun hm => by have := lNs _ hm; omega⟩)) (HA.out V (P.trans h)).2) (fun V h => RdMirrorS.one (m := b) (by rw [HE.out.2]; exact SB.off h (by simp only [List.mem_cons, not_or]; exact ⟨by omega, fun hm => by have := lNs _ hm; omega⟩)) (HB.out V (P.trans h)).2)).mono ?_
          rintro e w4 ⟨cs, HD, N4, hcs, O4⟩
          have HM : ∃ p c bm, e = .returned (.tuple #[.agg #[.int .i64 (mOf x2.xQuarrel.xSome 256 fs).xQ, .slice p (mOf x2.xQuarrel.xSome 256 fs).xViews.length c], .bool (!x2.xQuarrel.xSome)]) ∧ Mat w4 (.slice p (mOf x2.xQuarrel.xSome 256 fs).xViews.length c) (mOf x2.xQuarrel.xSome 256 fs).xViews bm ∧ (∀ y ∈ bm, v2.heap.size ≤ y) ∧ ∀ y ∈ bm, y ∉ cs := by
            rcases HD with ⟨hs, rfl⟩ | ⟨hs, z, bm, rfl, hM, hm1, hm2⟩
            · rw [hs]
              exact ⟨none, 0, [], rfl, Mat.nil _, (fun y hy => by cases hy), fun y hy => by cases hy⟩
            · rw [hs]
              obtain ⟨p, c, rfl⟩ := hM.value
              exact ⟨p, c, bm, rfl, hM, hm1, hm2⟩
          obtain ⟨p, c, bm, rfl, hM, hm0, hm2⟩ := HM
          replace P := P.trans O4
          replace Y := Y.off O4 (by simp only [List.mem_cons, not_or]; exact ⟨by omega, fun hm => by have := lNs _ hm; omega⟩)
          have hm1 : ∀ y ∈ bm, w.heap.size < y := fun y hy => by have := hm0 y hy; omega
          have hcs2 : ∀ y ∈ cs, y ∈ bs ∨ w.heap.size < y := fun y hy => by rcases hcs y hy with h | h; (exact .inl h); (right; omega)
          have zz4 : w.heap.size < w4.heap.size := by have := O4.size; omega
          have ltM := hM.lt
          have l4s := N4.lts
          have l4 := N4.lt
          clear HD hcs O4 KD SA SB N2 hm0 HA HB
          have N2 := N4
          clear N4
          dsimp only
          refine hK.out _ _ (HS.out _ P) (fun hS => ?_)
          clear hK K
          (try simp only [List.getElem_toArray]); (try simp only [List.getElem_cons_succ]); (try simp only [List.getElem_cons_zero]); (try simp only [Act.put]); (try simp only [List.setIfInBounds_toArray]); (try simp only [List.set_cons_succ]); (try simp only [List.set_cons_zero])
          refine wpAnyH_take (i := 10) (v := ?vn8) rfl (by kernel_rfl) (by kernel_rfl) (by kernel_rfl) (fun _ _ _ h => h) (Or.inl ⟨by rfl, ?hn8⟩) hS ?rn8
          case hn8 => intro w' hSw; go_simp; (try with_reducible rfl)
          (try simp only [List.getElem_toArray]); (try simp only [List.getElem_cons_succ]); (try simp only [List.getElem_cons_zero]); (try simp only [Act.put]); (try simp only [List.setIfInBounds_toArray]); (try simp only [List.set_cons_succ]); (try simp only [List.set_cons_zero])
          refine wpAnyH_take (i := 11) (v := ?vn9) rfl (by kernel_rfl) (by kernel_rfl) (by kernel_rfl) (fun _ _ _ h => h) (Or.inl ⟨by rfl, ?hn9⟩) hS ?rn9
          case hn9 => intro w' hSw; go_simp; (try with_reducible rfl)
          (try simp only [List.getElem_toArray]); (try simp only [List.getElem_cons_succ]); (try simp only [List.getElem_cons_zero]); (try simp only [Act.put]); (try simp only [List.setIfInBounds_toArray]); (try simp only [List.set_cons_succ]); (try simp only [List.set_cons_zero])
          refine wpAnyH_take (i := 12) (v := ?vn10) rfl (by kernel_rfl) (by kernel_rfl) (by kernel_rfl) (fun _ _ _ h => h) (Or.inl ⟨by rfl, ?hn10⟩) hS ?rn10
          case hn10 => intro w' hSw; go_simp; (try with_reducible rfl)
          (try simp only [List.getElem_toArray]); (try simp only [List.getElem_cons_succ]); (try simp only [List.getElem_cons_zero]); (try simp only [Act.put]); (try simp only [List.setIfInBounds_toArray]); (try simp only [List.set_cons_succ]); (try simp only [List.set_cons_zero])
          refine wpAnyH_ready (rs := [13]) (by kernel_rfl) (by simp) ?_
          refine AllReadyH.cons (o := _) rfl (fun K hK => ?_) (AllReadyH.nil)
          rw [if_pos (by rfl)]
          go_simp
          have ZE := Blk.new w4 36 #[.int .i64 0, .slice none 0 0]
          have zv3 : w4.heap.size < (w4.alloc (.cells #[.int .i64 0, .slice none 0 0] 36)).heap.size := by simp
          replace P := P.alloc (.cells #[.int .i64 0, .slice none 0 0] 36)
          replace Y := Y.alloc (.cells #[.int .i64 0, .slice none 0 0] 36)
          replace N2 := N2.alloc (.cells #[.int .i64 0, .slice none 0 0] 36)
          replace hM := hM.alloc (.cells #[.int .i64 0, .slice none 0 0] 36)
          have ng0 : ¬ b0 = w4.heap.size := by omega
          have ngc : w4.heap.size ∉ cs := fun hc => by have := l4s _ hc; omega
          have ngm : w4.heap.size ∉ bm := fun hc => by have := ltM _ hc; omega
          have zg8 : w.heap.size < w4.heap.size := by omega
          refine hK.out _ _ (HS.out _ P) (fun hS => ?_)
          clear hK K
          (try simp only [List.getElem_toArray]); (try simp only [List.getElem_cons_succ]); (try simp only [List.getElem_cons_zero]); (try simp only [Act.put]); (try simp only [List.setIfInBounds_toArray]); (try simp only [List.set_cons_succ]); (try simp only [List.set_cons_zero])
          generalize w4.alloc (.cells #[.int .i64 0, .slice none 0 0] 36) = v3 at *
          generalize w4.heap.size = g8 at *
          refine wpAnyH_ready (rs := [14]) (by kernel_rfl) (by simp) ?_
          refine AllReadyH.cons (o := _) rfl (fun K hK => ?_) (AllReadyH.nil)
          refine step_store_blk rfl 36 _ _ rfl g8 #[.int .i64 (mOf x2.xQuarrel.xSome 256 fs).xQ, .slice p (mOf x2.xQuarrel.xSome 256 fs).xViews.length c] rfl rfl ZE rfl (by kernel_rfl) (by kernel_rfl) ?_
          intro w6 Z6 O6
          have P6 := P.mix O6 (fun y hy => by simp at hy; right; omega)
          have Y6 := Y.off O6 (by simp; omega)
          have N6 := N2.off O6 (by simp; exact ng0) (fun y hy hm => by simp at hm; exact ngc (hm ▸ hy))
          have M6 := hM.off O6 (fun y hy hm => by simp at hm; exact ngm (hm ▸ hy))
          refine hK.out _ _ (HS.out _ P6) (fun hS => ?_)
          clear hK K
          (try simp only [List.getElem_toArray]); (try simp only [List.getElem_cons_succ]); (try simp only [List.getElem_cons_zero]); (try simp only [Act.put]); (try simp only [List.setIfInBounds_toArray]); (try simp only [List.set_cons_succ]); (try simp only [List.set_cons_zero])
          refine wpAnyH_take (i := 15) (v := ?vn11) rfl (by kernel_rfl) (by kernel_rfl) (by kernel_rfl) (fun _ _ _ h => h) (Or.inl ⟨by rfl, ?hn11⟩) hS ?rn11
          case hn11 => intro w' hSw; go_simp; (try with_reducible rfl)
          (try simp only [List.getElem_toArray]); (try simp only [List.getElem_cons_succ]); (try simp only [List.getElem_cons_zero]); (try simp only [Act.put]); (try simp only [List.setIfInBounds_toArray]); (try simp only [List.set_cons_succ]); (try simp only [List.set_cons_zero])
          refine wpAnyH_done (by kernel_rfl) ?_ _
          clear hS
          go_wp2
          go_meet
          case rel => exact ⟨g8, p, c, bm, cs, rfl, rfl, Y6, Z6, M6, fun y hy => ⟨hm1 y hy, hm2 y hy⟩, zg8, N6, hcs2, P6⟩
        · skip
          rw [if_pos (by rfl)]
          go_simp
          have ZE := Blk.new v2 36 #[.int .i64 0, .slice none 0 0]
          have zv4 : v2.heap.size < (v2.alloc (.cells #[.int .i64 0, .slice none 0 0] 36)).heap.size := by simp
          replace P := P.alloc (.cells #[.int .i64 0, .slice none 0 0] 36)
          replace Y := Y.alloc (.cells #[.int .i64 0, .slice none 0 0] 36)
          replace N2 := N2.alloc (.cells #[.int .i64 0, .slice none 0 0] 36)
          replace SA := SA.alloc (.cells #[.int .i64 0, .slice none 0 0] 36)
          replace SB := SB.alloc (.cells #[.int .i64 0, .slice none 0 0] 36)
          have zg8 : w.heap.size < v2.heap.size := by omega
          refine hK.out _ _ (HS.out _ P) (fun hS => ?_)
          clear hK K
          (try simp only [List.getElem_toArray]); (try simp only [List.getElem_cons_succ]); (try simp only [List.getElem_cons_zero]); (try simp only [Act.put]); (try simp only [List.setIfInBounds_toArray]); (try simp only [List.set_cons_succ]); (try simp only [List.set_cons_zero])
          generalize v2.alloc (.cells #[.int .i64 0, .slice none 0 0] 36) = v4 at *
          generalize v2.heap.size = g8 at *
          refine wpAnyH_ready (rs := [9]) (by kernel_rfl) (by simp) ?_
          refine AllReadyH.cons (o := _) rfl (fun K hK => ?_) (AllReadyH.nil)
          rw [if_pos (by rfl)]
          go_simp
          go_at_call 64
          clear hS
          have hlt := fun y hy => lNs y hy
          refine (KD _ N2 _ _ (fun V h => RdMirrorS.one (m := a) (by rw [HE.out.1]; exact SA.off h (by simp only [List.mem_cons, not_or]; exact ⟨by omega, fun hm => by have := lNs _ hm; omega⟩)) (HA.out V (P.trans h)).2) (fun V h => RdMirrorS.one (m := b) (by rw [HE.out.2]; exact SB.off h (by simp only [List.mem_cons, not_or]; exact ⟨by omega, fun hm => by have := lNs _ hm; omega⟩)) (HB.out V (P.trans h)).2)).mono ?_
          rintro e w4 ⟨cs, HD, N4, hcs, O4⟩
          have HM : ∃ p c bm, e = .returned (.tuple #[.agg #[.int .i64 (mOf x2.xQuarrel.xSome 256 fs).xQ, .slice p (mOf x2.xQuarrel.xSome 256 fs).xViews.length c], .bool (!x2.xQuarrel.xSome)]) ∧ Mat w4 (.slice p (mOf x2.xQuarrel.xSome 256 fs).xViews.length c) (mOf x2.xQuarrel.xSome 256 fs).xViews bm ∧ (∀ y ∈ bm, v4.heap.size ≤ y) ∧ ∀ y ∈ bm, y ∉ cs := by
            rcases HD with ⟨hs, rfl⟩ | ⟨hs, z, bm, rfl, hM, hm1, hm2⟩
            · rw [hs]
              exact ⟨none, 0, [], rfl, Mat.nil _, (fun y hy => by cases hy), fun y hy => by cases hy⟩
            · rw [hs]
              obtain ⟨p, c, rfl⟩ := hM.value
              exact ⟨p, c, bm, rfl, hM, hm1, hm2⟩
          obtain ⟨p, c, bm, rfl, hM, hm0, hm2⟩ := HM
          replace P := P.trans O4
          replace Y := Y.off O4 (by simp only [List.mem_cons, not_or]; exact ⟨by omega, fun hm => by have := lNs _ hm; omega⟩)
          have hm1 : ∀ y ∈ bm, w.heap.size < y := fun y hy => by have := hm0 y hy; omega
          have hcs2 : ∀ y ∈ cs, y ∈ bs ∨ w.heap.size < y := fun y hy => by rcases hcs y hy with h | h; (exact .inl h); (right; omega)
          have zz4 : w.heap.size < w4.heap.size := by have := O4.size; omega
          replace ZE := ZE.off O4 (by simp only [List.mem_cons, not_or]; exact ⟨by omega, fun hm => by have := lNs _ hm; omega⟩)
          have ng0 : b0 ∉ [g8] := by simp; omega
          have ngc : g8 ∉ cs := fun hc => by rcases hcs _ hc with h | h; (have := lNs _ h; omega); omega
          have ngm : g8 ∉ bm := fun hc => by have := hm0 _ hc; omega
          replace ng0 : ¬ b0 = g8 := by simpa using ng0
          have ltM := hM.lt
          have l4s := N4.lts
          have l4 := N4.lt
          clear HD hcs O4 KD SA SB N2 hm0 HA HB
          have N2 := N4
          clear N4
          dsimp only
          refine hK.out _ _ (HS.out _ P) (fun hS => ?_)
          clear hK K
          (try simp only [List.getElem_toArray]); (try simp only [List.getElem_cons_succ]); (try simp only [List.getElem_cons_zero]); (try simp only [Act.put]); (try simp only [List.setIfInBounds_toArray]); (try simp only [List.set_cons_succ]); (try simp only [List.set_cons_zero])
          refine wpAnyH_take (i := 10) (v := ?vn12) rfl (by kernel_rfl) (by kernel_rfl) (by kernel_rfl) (fun _ _ _ h => h) (Or.inl ⟨by rfl, ?hn12⟩) hS ?rn12
          case hn12 => intro w' hSw; go_simp; (try with_reducible rfl)
          (try simp only [List.getElem_toArray]); (try simp only [List.getElem_cons_succ]); (try simp only [List.getElem_cons_zero]); (try simp only [Act.put]); (try simp only [List.setIfInBounds_toArray]); (try simp only [List.set_cons_succ]); (try simp only [List.set_cons_zero])
          refine wpAnyH_take (i := 11) (v := ?vn13) rfl (by kernel_rfl) (by kernel_rfl) (by kernel_rfl) (fun _ _ _ h => h) (Or.inl ⟨by rfl, ?hn13⟩) hS ?rn13
          case hn13 => intro w' hSw; go_simp; (try with_reducible rfl)
          (try simp only [List.getElem_toArray]); (try simp only [List.getElem_cons_succ]); (try simp only [List.getElem_cons_zero]); (try simp only [Act.put]); (try simp only [List.setIfInBounds_toArray]); (try simp only [List.set_cons_succ]); (try simp only [List.set_cons_zero])
          refine wpAnyH_take (i := 12) (v := ?vn14) rfl (by kernel_rfl) (by kernel_rfl) (by kernel_rfl) (fun _ _ _ h => h) (Or.inl ⟨by rfl, ?hn14⟩) hS ?rn14
          case hn14 => intro w' hSw; go_simp; (try with_reducible rfl)
          (try simp only [List.getElem_toArray]); (try simp only [List.getElem_cons_succ]); (try simp only [List.getElem_cons_zero]); (try simp only [Act.put]); (try simp only [List.setIfInBounds_toArray]); (try simp only [List.set_cons_succ]); (try simp only [List.set_cons_zero])
          refine wpAnyH_ready (rs := [14]) (by kernel_rfl) (by simp) ?_
          refine AllReadyH.cons (o := _) rfl (fun K hK => ?_) (AllReadyH.nil)
          refine step_store_blk rfl 36 _ _ rfl g8 #[.int .i64 (mOf x2.xQuarrel.xSome 256 fs).xQ, .slice p (mOf x2.xQuarrel.xSome 256 fs).xViews.length c] rfl rfl ZE rfl (by kernel_rfl) (by kernel_rfl) ?_
          intro w6 Z6 O6
          have P6 := P.mix O6 (fun y hy => by simp at hy; right; omega)
          have Y6 := Y.off O6 (by simp; omega)
          have N6 := N2.off O6 (by simp; exact ng0) (fun y hy hm => by simp at hm; exact ngc (hm ▸ hy))
          have M6 := hM.off O6 (fun y hy hm => by simp at hm; exact ngm (hm ▸ hy))
          refine hK.out _ _ (HS.out _ P6) (fun hS => ?_)
          clear hK K
          (try simp only [List.getElem_toArray]); (try simp only [List.getElem_cons_succ]); (try simp only [List.getElem_cons_zero]); (try simp only [Act.put]); (try simp only [List.setIfInBounds_toArray]); (try simp only [List.set_cons_succ]); (try simp only [List.set_cons_zero])
          refine wpAnyH_take (i := 15) (v := ?vn15) rfl (by kernel_rfl) (by kernel_rfl) (by kernel_rfl) (fun _ _ _ h => h) (Or.inl ⟨by rfl, ?hn15⟩) hS ?rn15
          case hn15 => intro w' hSw; go_simp; (try with_reducible rfl)
          (try simp only [List.getElem_toArray]); (try simp only [List.getElem_cons_succ]); (try simp only [List.getElem_cons_zero]); (try simp only [Act.put]); (try simp only [List.setIfInBounds_toArray]); (try simp only [List.set_cons_succ]); (try simp only [List.set_cons_zero])
          refine wpAnyH_done (by kernel_rfl) ?_ _
          clear hS
          go_wp2
          go_meet
          case rel => exact ⟨g8, p, c, bm, cs, rfl, rfl, Y6, Z6, M6, fun y hy => ⟨hm1 y hy, hm2 y hy⟩, zg8, N6, hcs2, P6⟩
      · skip
        rw [if_pos (by rfl)]
        go_simp
        have ZE := Blk.new v1 36 #[.int .i64 0, .slice none 0 0]
        have zv5 : v1.heap.size < (v1.alloc (.cells #[.int .i64 0, .slice none 0 0] 36)).heap.size := by simp
        replace P := P.alloc (.cells #[.int .i64 0, .slice none 0 0] 36)
        replace Y := Y.alloc (.cells #[.int .i64 0, .slice none 0 0] 36)
        replace N2 := N2.alloc (.cells #[.int .i64 0, .slice none 0 0] 36)
        replace SA := SA.alloc (.cells #[.int .i64 0, .slice none 0 0] 36)
        have zg8 : w.heap.size < v1.heap.size := by omega
        refine hK.out _ _ (HS.out _ P) (fun hS => ?_)
        clear hK K
        (try simp only [List.getElem_toArray]); (try simp only [List.getElem_cons_succ]); (try simp only [List.getElem_cons_zero]); (try simp only [Act.put]); (try simp only [List.setIfInBounds_toArray]); (try simp only [List.set_cons_succ]); (try simp only [List.set_cons_zero])
        generalize v1.alloc (.cells #[.int .i64 0, .slice none 0 0] 36) = v5 at *
        generalize v1.heap.size = g8 at *
        refine wpAnyH_ready (rs := [8]) (by kernel_rfl) (by simp) ?_
        refine AllReadyH.cons (o := _) rfl (fun K hK => ?_) (AllReadyH.nil)
        rw [if_pos (by rfl)]
        go_simp
        have SB := Blk.new v5 36 #[.int .i64 256, .slice pb b.xViews.length cb]
        have zv6 : v5.heap.size < (v5.alloc (.cells #[.int .i64 256, .slice pb b.xViews.length cb] 36)).heap.size := by simp
        replace P := P.alloc (.cells #[.int .i64 256, .slice pb b.xViews.length cb] 36)
        replace Y := Y.alloc (.cells #[.int .i64 256, .slice pb b.xViews.length cb] 36)
        replace N2 := N2.alloc (.cells #[.int .i64 256, .slice pb b.xViews.length cb] 36)
        replace SA := SA.alloc (.cells #[.int .i64 256, .slice pb b.xViews.length cb] 36)
        replace ZE := ZE.alloc (.cells #[.int .i64 256, .slice pb b.xViews.length cb] 36)
        have zgB : w.heap.size < v5.heap.size := by omega
        refine hK.out _ _ (HS.out _ P) (fun hS => ?_)
        clear hK K
        (try simp only [List.getElem_toArray]); (try simp only [List.getElem_cons_succ]); (try simp only [List.getElem_cons_zero]); (try simp only [Act.put]); (try simp only [List.setIfInBounds_toArray]); (try simp only [List.set_cons_succ]); (try simp only [List.set_cons_zero])
        generalize v5.alloc (.cells #[.int .i64 256, .slice pb b.xViews.length cb] 36) = v6 at *
        generalize v5.heap.size = gB at *
        refine wpAnyH_ready (rs := [9]) (by kernel_rfl) (by simp) ?_
        refine AllReadyH.cons (o := _) rfl (fun K hK => ?_) (AllReadyH.nil)
        rw [if_pos (by rfl)]
        go_simp
        go_at_call 64
        clear hS
        have hlt := fun y hy => lNs y hy
        refine (KD _ N2 _ _ (fun V h => RdMirrorS.one (m := a) (by rw [HE.out.1]; exact SA.off h (by simp only [List.mem_cons, not_or]; exact ⟨by omega, fun hm => by have := lNs _ hm; omega⟩)) (HA.out V (P.trans h)).2) (fun V h => RdMirrorS.one (m := b) (by rw [HE.out.2]; exact SB.off h (by simp only [List.mem_cons, not_or]; exact ⟨by omega, fun hm => by have := lNs _ hm; omega⟩)) (HB.out V (P.trans h)).2)).mono ?_
        rintro e w4 ⟨cs, HD, N4, hcs, O4⟩
        have HM : ∃ p c bm, e = .returned (.tuple #[.agg #[.int .i64 (mOf x2.xQuarrel.xSome 256 fs).xQ, .slice p (mOf x2.xQuarrel.xSome 256 fs).xViews.length c], .bool (!x2.xQuarrel.xSome)]) ∧ Mat w4 (.slice p (mOf x2.xQuarrel.xSome 256 fs).xViews.length c) (mOf x2.xQuarrel.xSome 256 fs).xViews bm ∧ (∀ y ∈ bm, v6.heap.size ≤ y) ∧ ∀ y ∈ bm, y ∉ cs := by
          rcases HD with ⟨hs, rfl⟩ | ⟨hs, z, bm, rfl, hM, hm1, hm2⟩
          · rw [hs]
            exact ⟨none, 0, [], rfl, Mat.nil _, (fun y hy => by cases hy), fun y hy => by cases hy⟩
          · rw [hs]
            obtain ⟨p, c, rfl⟩ := hM.value
            exact ⟨p, c, bm, rfl, hM, hm1, hm2⟩
        obtain ⟨p, c, bm, rfl, hM, hm0, hm2⟩ := HM
        replace P := P.trans O4
        replace Y := Y.off O4 (by simp only [List.mem_cons, not_or]; exact ⟨by omega, fun hm => by have := lNs _ hm; omega⟩)
        have hm1 : ∀ y ∈ bm, w.heap.size < y := fun y hy => by have := hm0 y hy; omega
        have hcs2 : ∀ y ∈ cs, y ∈ bs ∨ w.heap.size < y := fun y hy => by rcases hcs y hy with h | h; (exact .inl h); (right; omega)
        have zz4 : w.heap.size < w4.heap.size := by have := O4.size; omega
        replace ZE := ZE.off O4 (by simp only [List.mem_cons, not_or]; exact ⟨by omega, fun hm => by have := lNs _ hm; omega⟩)
        have ng0 : b0 ∉ [g8] := by simp; omega
        have ngc : g8 ∉ cs := fun hc => by rcases hcs _ hc with h | h; (have := lNs _ h; omega); omega
        have ngm : g8 ∉ bm := fun hc => by have := hm0 _ hc; omega
        replace ng0 : ¬ b0 = g8 := by simpa using ng0
        have ltM := hM.lt
        have l4s := N4.lts
        have l4 := N4.lt
        clear HD hcs O4 KD SA SB N2 hm0 HA HB
        have N2 := N4
        clear N4
        dsimp only
        refine hK.out _ _ (HS.out _ P) (fun hS => ?_)
        clear hK K
        (try simp only [List.getElem_toArray]); (try simp only [List.getElem_cons_succ]); (try simp only [List.getElem_cons_zero]); (try simp only [Act.put]); (try simp only [List.setIfInBounds_toArray]); (try simp only [List.set_cons_succ]); (try simp only [List.set_cons_zero])
        refine wpAnyH_take (i := 10) (v := ?vn16) rfl (by kernel_rfl) (by kernel_rfl) (by kernel_rfl) (fun _ _ _ h => h) (Or.inl ⟨by rfl, ?hn16⟩) hS ?rn16
        case hn16 => intro w' hSw; go_simp; (try with_reducible rfl)
        (try simp only [List.getElem_toArray]); (try simp only [List.getElem_cons_succ]); (try simp only [List.getElem_cons_zero]); (try simp only [Act.put]); (try simp only [List.setIfInBounds_toArray]); (try simp only [List.set_cons_succ]); (try simp only [List.set_cons_zero])
        refine wpAnyH_take (i := 11) (v := ?vn17) rfl (by kernel_rfl) (by kernel_rfl) (by kernel_rfl) (fun _ _ _ h => h) (Or.inl ⟨by rfl, ?hn17⟩) hS ?rn17
        case hn17 => intro w' hSw; go_simp; (try with_reducible rfl)
        (try simp only [List.getElem_toArray]); (try simp only [List.getElem_cons_succ]); (try simp only [List.getElem_cons_zero]); (try simp only [Act.put]); (try simp only [List.setIfInBounds_toArray]); (try simp only [List.set_cons_succ]); (try simp only [List.set_cons_zero])
        refine wpAnyH_take (i := 12) (v := ?vn18) rfl (by kernel_rfl) (by kernel_rfl) (by kernel_rfl) (fun _ _ _ h => h) (Or.inl ⟨by rfl, ?hn18⟩) hS ?rn18
        case hn18 => intro w' hSw; go_simp; (try with_reducible rfl)
        (try simp only [List.getElem_toArray]); (try simp only [List.getElem_cons_succ]); (try simp only [List.getElem_cons_zero]); (try simp only [Act.put]); (try simp only [List.setIfInBounds_toArray]); (try simp only [List.set_cons_succ]); (try simp only [List.set_cons_zero])
        refine wpAnyH_ready (rs := [14]) (by kernel_rfl) (by simp) ?_
        refine AllReadyH.cons (o := _) rfl (fun K hK => ?_) (AllReadyH.nil)
        refine step_store_blk rfl 36 _ _ rfl g8 #[.int .i64 (mOf x2.xQuarrel.xSome 256 fs).xQ, .slice p (mOf x2.xQuarrel.xSome 256 fs).xViews.length c] rfl rfl ZE rfl (by kernel_rfl) (by kernel_rfl) ?_
        intro w6 Z6 O6
        have P6 := P.mix O6 (fun y hy => by simp at hy; right; omega)
        have Y6 := Y.off O6 (by simp; omega)
        have N6 := N2.off O6 (by simp; exact ng0) (fun y hy hm => by simp at hm; exact ngc (hm ▸ hy))
        have M6 := hM.off O6 (fun y hy hm => by simp at hm; exact ngm (hm ▸ hy))
        refine hK.out _ _ (HS.out _ P6) (fun hS => ?_)
        clear hK K
        (try simp only [List.getElem_toArray]); (try simp only [List.getElem_cons_succ]); (try simp only [List.getElem_cons_zero]); (try simp only [Act.put]); (try simp only [List.setIfInBounds_toArray]); (try simp only [List.set_cons_succ]); (try simp only [List.set_cons_zero])
        refine wpAnyH_take (i := 15) (v := ?vn19) rfl (by kernel_rfl) (by kernel_rfl) (by kernel_rfl) (fun _ _ _ h => h) (Or.inl ⟨by rfl, ?hn19⟩) hS ?rn19
        case hn19 => intro w' hSw; go_simp; (try with_reducible rfl)
        (try simp only [List.getElem_toArray]); (try simp only [List.getElem_cons_succ]); (try simp only [List.getElem_cons_zero]); (try simp only [Act.put]); (try simp only [List.setIfInBounds_toArray]); (try simp only [List.set_cons_succ]); (try simp only [List.set_cons_zero])
        refine wpAnyH_done (by kernel_rfl) ?_ _
        clear hS
        go_wp2
        go_meet
        case rel => exact ⟨g8, p, c, bm, cs, rfl, rfl, Y6, Z6, M6, fun y hy => ⟨hm1 y hy, hm2 y hy⟩, zg8, N6, hcs2, P6⟩
    · skip
      rw [if_pos (by rfl)]
      go_simp
      have SB := Blk.new v0 36 #[.int .i64 256, .slice pb b.xViews.length cb]
      have zv7 : v0.heap.size < (v0.alloc (.cells #[.int .i64 256, .slice pb b.xViews.length cb] 36)).heap.size := by simp
      replace P := P.alloc (.cells #[.int .i64 256, .slice pb b.xViews.length cb] 36)
      replace Y := Y.alloc (.cells #[.int .i64 256, .slice pb b.xViews.length cb] 36)
      replace N2 := N2.alloc (.cells #[.int .i64 256, .slice pb b.xViews.length cb] 36)
      have zgB : w.heap.size < v0.heap.size := by omega
      refine hK.out _ _ (HS.out _ P) (fun hS => ?_)
      clear hK K
      (try simp only [List.getElem_toArray]); (try simp only [List.getElem_cons_succ]); (try simp only [List.getElem_cons_zero]); (try simp only [Act.put]); (try simp only [List.setIfInBounds_toArray]); (try simp only [List.set_cons_succ]); (try simp only [List.set_cons_zero])
      generalize v0.alloc (.cells #[.int .i64 256, .slice pb b.xViews.length cb] 36) = v7 at *
      generalize v0.heap.size = gB at *
      refine wpAnyH_ready (rs := [4, 13]) (by kernel_rfl) (by simp) ?_
      refine AllReadyH.cons (o := _) rfl (fun K hK => ?_) (AllReadyH.cons (o := _) rfl (fun K hK => ?_) (AllReadyH.nil))
      · skip
        rw [if_pos (by rfl)]
        go_simp
        have SA := Blk.new v7 36 #[.int .i64 256, .slice pa a.xViews.length ca]
        have zv8 : v7.heap.size < (v7.alloc (.cells #[.int .i64 256, .slice pa a.xViews.length ca] 36)).heap.size := by simp
        replace P := P.alloc (.cells #[.int .i64 256, .slice pa a.xViews.length ca] 36)
        replace Y := Y.alloc (.cells #[.int .i64 256, .slice pa a.xViews.length ca] 36)
        replace N2 := N2.alloc (.cells #[.int .i64 256, .slice pa a.xViews.length ca] 36)
        replace SB := SB.alloc (.cells #[.int .i64 256, .slice pa a.xViews.length ca] 36)
        have zgA : w.heap.size < v7.heap.size := by omega
        refine hK.out _ _ (HS.out _ P) (fun hS => ?_)
        clear hK K
        (try simp only [List.getElem_toArray]); (try simp only [List.getElem_cons_succ]); (try simp only [List.getElem_cons_zero]); (try simp only [Act.put]); (try simp only [List.setIfInBounds_toArray]); (try simp only [List.set_cons_succ]); (try simp only [List.set_cons_zero])
        generalize v7.alloc (.cells #[.int .i64 256, .slice pa a.xViews.length ca] 36) = v8 at *
        generalize v7.heap.size = gA at *
        refine wpAnyH_ready (rs := [9, 13]) (by kernel_rfl) (by simp) ?_
        refine AllReadyH.cons (o := _) rfl (fun K hK => ?_) (AllReadyH.cons (o := _) rfl (fun K hK => ?_) (AllReadyH.nil))
        · skip
          rw [if_pos (by rfl)]
          go_simp
          go_at_call 64
          clear hS
          have hlt := fun y hy => lNs y hy
          refine (KD _ N2 _ _ (fun V h => RdMirrorS.one (m := a) (by rw [HE.out.1]; exact SA.off h (by simp only [List.mem_cons, not_or]; exact ⟨by omega, fun hm => by have := lNs _ hm; omega⟩)) (HA.out V (P.trans h)).2) (fun V h => RdMirrorS.one (m := b) (by rw [HE.out.2]; exact SB.off h (by simp only [List.mem_cons, not_or]; exact ⟨by omega, fun hm => by have := lNs _ hm; omega⟩)) (HB.out V (P.trans h)).2)).mono ?_
          rintro e w4 ⟨cs, HD, N4, hcs, O4⟩
          have HM : ∃ p c bm, e = .returned (.tuple #[.agg #[.int .i64 (mOf x2.xQuarrel.xSome 256 fs).xQ, .slice p (mOf x2.xQuarrel.xSome 256 fs).xViews.length c], .bool (!x2.xQuarrel.xSome)]) ∧ Mat w4 (.slice p (mOf x2.xQuarrel.xSome 256 fs).xViews.length c) (mOf x2.xQuarrel.xSome 256 fs).xViews bm ∧ (∀ y ∈ bm, v8.heap.size ≤ y) ∧ ∀ y ∈ bm, y ∉ cs := by
            rcases HD with ⟨hs, rfl⟩ | ⟨hs, z, bm, rfl, hM, hm1, hm2⟩
            · rw [hs]
              exact ⟨none, 0, [], rfl, Mat.nil _, (fun y hy => by cases hy), fun y hy => by cases hy⟩
            · rw [hs]
              obtain ⟨p, c, rfl⟩ := hM.value
              exact ⟨p, c, bm, rfl, hM, hm1, hm2⟩
          obtain ⟨p, c, bm, rfl, hM, hm0, hm2⟩ := HM
          replace P := P.trans O4
          replace Y := Y.off O4 (by simp only [List.mem_cons, not_or]; exact ⟨by omega, fun hm => by have := lNs _ hm; omega⟩)
          have hm1 : ∀ y ∈ bm, w.heap.size < y := fun y hy => by have := hm0 y hy; omega
          have hcs2 : ∀ y ∈ cs, y ∈ bs ∨ w.heap.size < y := fun y hy => by rcases hcs y hy with h | h; (exact .inl h); (right; omega)
          have zz4 : w.heap.size < w4.heap.size := by have := O4.size; omega
          have ltM := hM.lt
          have l4s := N4.lts
          have l4 := N4.lt
          clear HD hcs O4 KD SA SB N2 hm0 HA HB
          have N2 := N4
          clear N4
          dsimp only
          refine hK.out _ _ (HS.out _ P) (fun hS => ?_)
          clear hK K
          (try simp only [List.getElem_toArray]); (try simp only [List.getElem_cons_succ]); (try simp only [List.getElem_cons_zero]); (try simp only [Act.put]); (try simp only [List.setIfInBounds_toArray]); (try simp only [List.set_cons_succ]); (try simp only [List.set_cons_zero])
          refine wpAnyH_take (i := 10) (v := ?vn20) rfl (by kernel_rfl) (by kernel_rfl) (by kernel_rfl) (fun _ _ _ h => h) (Or.inl ⟨by rfl, ?hn20⟩) hS ?rn20
          case hn20 => intro w' hSw; go_simp; (try with_reducible rfl)
          (try simp only [List.getElem_toArray]); (try simp only [List.getElem_cons_succ]); (try simp only [List.getElem_cons_zero]); (try simp only [Act.put]); (try simp only [List.setIfInBounds_toArray]); (try simp only [List.set_cons_succ]); (try simp only [List.set_cons_zero])
          refine wpAnyH_take (i := 11) (v := ?vn21) rfl (by kernel_rfl) (by kernel_rfl) (by kernel_rfl) (fun _ _ _ h => h) (Or.inl ⟨by rfl, ?hn21⟩) hS ?rn21
          case hn21 => intro w' hSw; go_simp; (try with_reducible rfl)
          (try simp only [List.getElem_toArray]); (try simp only [List.getElem_cons_succ]); (try simp only [List.getElem_cons_zero]); (try simp only [Act.put]); (try simp only [List.setIfInBounds_toArray]); (try simp only [List.set_cons_succ]); (try simp only [List.set_cons_zero])
          refine wpAnyH_take (i := 12) (v := ?vn22) rfl (by kernel_rfl) (by kernel_rfl) (by kernel_rfl) (fun _ _ _ h => h) (Or.inl ⟨by rfl, ?hn22⟩) hS ?rn22
          case hn22 => intro w' hSw; go_simp; (try with_reducible rfl)
          (try simp only [List.getElem_toArray]); (try simp only [List.getElem_cons_succ]); (try simp only [List.getElem_cons_zero]); (try simp only [Act.put]); (try simp only [List.setIfInBounds_toArray]); (try simp only [List.set_cons_succ]); (try simp only [List.set_cons_zero])
          refine wpAnyH_ready (rs := [13]) (by kernel_rfl) (by simp) ?_
          refine AllReadyH.cons (o := _) rfl (fun K hK => ?_) (AllReadyH.nil)
          rw [if_pos (by rfl)]
          go_simp
          have ZE := Blk.new w4 36 #[.int .i64 0, .slice none 0 0]
          have zv9 : w4.heap.size < (w4.alloc (.cells #[.int .i64 0, .slice none 0 0] 36)).heap.size := by simp
          replace P := P.alloc (.cells #[.int .i64 0, .slice none 0 0] 36)
          replace Y := Y.alloc (.cells #[.int .i64 0, .slice none 0 0] 36)
          replace N2 := N2.alloc (.cells #[.int .i64 0, .slice none 0 0] 36)
          replace hM := hM.alloc (.cells #[.int .i64 0, .slice none 0 0] 36)
          have ng0 : ¬ b0 = w4.heap.size := by omega
          have ngc : w4.heap.size ∉ cs := fun hc => by have := l4s _ hc; omega
          have ngm : w4.heap.size ∉ bm := fun hc => by have := ltM _ hc; omega
          have zg8 : w.heap.size < w4.heap.size := by omega
          refine hK.out _ _ (HS.out _ P) (fun hS => ?_)
          clear hK K
          (try simp only [List.getElem_toArray]); (try simp only [List.getElem_cons_succ]); (try simp only [List.getElem_cons_zero]); (try simp only [Act.put]); (try simp only [List.setIfInBounds_toArray]); (try simp only [List.set_cons_succ]); (try simp only [List.set_cons_zero])
          generalize w4.alloc (.cells #[.int .i64 0, .slice none 0 0] 36) = v9 at *
          generalize w4.heap.size = g8 at *
          refine wpAnyH_ready (rs := [14]) (by kernel_rfl) (by simp) ?_
          refine AllReadyH.cons (o := _) rfl (fun K hK => ?_) (AllReadyH.nil)
          refine step_store_blk rfl 36 _ _ rfl g8 #[.int .i64 (mOf x2.xQuarrel.xSome 256 fs).xQ, .slice p (mOf x2.xQuarrel.xSome 256 fs).xViews.length c] rfl rfl ZE rfl (by kernel_rfl) (by kernel_rfl) ?_
          intro w6 Z6 O6
          have P6 := P.mix O6 (fun y hy => by simp at hy; right; omega)
          have Y6 := Y.off O6 (by simp; omega)
          have N6 := N2.off O6 (by simp; exact ng0) (fun y hy hm => by simp at hm; exact ngc (hm ▸ hy))
          have M6 := hM.off O6 (fun y hy hm => by simp at hm; exact ngm (hm ▸ hy))
          refine hK.out _ _ (HS.out _ P6) (fun hS => ?_)
          clear hK K
          (try simp only [List.getElem_toArray]); (try simp only [List.getElem_cons_succ]); (try simp only [List.getElem_cons_zero]); (try simp only [Act.put]); (try simp only [List.setIfInBounds_toArray]); (try simp only [List.set_cons_succ]); (try simp only [List.set_cons_zero])
          refine wpAnyH_take (i := 15) (v := ?vn23) rfl (by kernel_rfl) (by kernel_rfl) (by kernel_rfl) (fun _ _ _ h => h) (Or.inl ⟨by rfl, ?hn23⟩) hS ?rn23
          case hn23 => intro w' hSw; go_simp; (try with_reducible rfl)
          (try simp only [List.getElem_toArray]); (try simp only [List.getElem_cons_succ]); (try simp only [List.getElem_cons_zero]); (try simp only [Act.put]); (try simp only [List.setIfInBounds_toArray]); (try simp only [List.set_cons_succ]); (try simp only [List.set_cons_zero])
          refine wpAnyH_done (by kernel_rfl) ?_ _
          clear hS
          go_wp2
          go_meet
          case rel => exact ⟨g8, p, c, bm, cs, rfl, rfl, Y6, Z6, M6, fun y hy => ⟨hm1 y hy, hm2 y hy⟩, zg8, N6, hcs2, P6⟩
        · skip
          rw [if_pos (by rfl)]
          go_simp
          have ZE := Blk.new v8 36 #[.int .i64 0, .slice none 0 0]
          have zv10 : v8.heap.size < (v8.alloc (.cells #[.int .i64 0, .slice none 0 0] 36)).heap.size := by simp
          replace P := P.alloc (.cells #[.int .i64 0, .slice none 0 0] 36)
          replace Y := Y.alloc (.cells #[.int .i64 0, .slice none 0 0] 36)
          replace N2 := N2.alloc (.cells #[.int .i64 0, .slice none 0 0] 36)
          replace SA := SA.alloc (.cells #[.int .i64 0, .slice none 0 0] 36)
          replace SB := SB.alloc (.cells #[.int .i64 0, .slice none 0 0] 36)
          have zg8 : w.heap.size < v8.heap.size := by omega
          refine hK.out _ _ (HS.out _ P) (fun hS => ?_)
          clear hK K
          (try simp only [List.getElem_toArray]); (try simp only [List.getElem_cons_succ]); (try simp only [List.getElem_cons_zero]); (try simp only [Act.put]); (try simp only [List.setIfInBounds_toArray]); (try simp only [List.set_cons_succ]); (try simp only [List.set_cons_zero])
          generalize v8.alloc (.cells #[.int .i64 0, .slice none 0 0] 36) = v10 at *
          generalize v8.heap.size = g8 at *
          refine wpAnyH_ready (rs := [9]) (by kernel_rfl) (by simp) ?_
          refine AllReadyH.cons (o := _) rfl (fun K hK => ?_) (AllReadyH.nil)
          rw [if_pos (by rfl)]
          go_simp
          go_at_call 64
          clear hS
          have hlt := fun y hy => lNs y hy
          refine (KD _ N2 _ _ (fun V h => RdMirrorS.one (m := a) (by rw [HE.out.1]; exact SA.off h (by simp only [List.mem_cons, not_or]; exact ⟨by omega, fun hm => by have := lNs _ hm; omega⟩)) (HA.out V (P.trans h)).2) (fun V h => RdMirrorS.one (m := b) (by rw [HE.out.2]; exact SB.off h (by simp only [List.mem_cons, not_or]; exact ⟨by omega, fun hm => by have := lNs _ hm; omega⟩)) (HB.out V (P.trans h)).2)).mono ?_
          rintro e w4 ⟨cs, HD, N4, hcs, O4⟩
          have HM : ∃ p c bm, e = .returned (.tuple #[.agg #[.int .i64 (mOf x2.xQuarrel.xSome 256 fs).xQ, .slice p (mOf x2.xQuarrel.xSome 256 fs).xViews.length c], .bool (!x2.xQuarrel.xSome)]) ∧ Mat w4 (.slice p (mOf x2.xQuarrel.xSome 256 fs).xViews.length c) (mOf x2.xQuarrel.xSome 256 fs).xViews bm ∧ (∀ y ∈ bm, v10.heap.size ≤ y) ∧ ∀ y ∈ bm, y ∉ cs := by
            rcases HD with ⟨hs, rfl⟩ | ⟨hs, z, bm, rfl, hM, hm1, hm2⟩
            · rw [hs]
              exact ⟨none, 0, [], rfl, Mat.nil _, (fun y hy => by cases hy), fun y hy => by cases hy⟩
            · rw [hs]
              obtain ⟨p, c, rfl⟩ := hM.value
              exact ⟨p, c, bm, rfl, hM, hm1, hm2⟩
          obtain ⟨p, c, bm, rfl, hM, hm0, hm2⟩ := HM
          replace P := P.trans O4
          replace Y := Y.off O4 (by simp only [List.mem_cons, not_or]; exact ⟨by omega, fun hm => by have := lNs _ hm; omega⟩)
          have hm1 : ∀ y ∈ bm, w.heap.size < y := fun y hy => by have := hm0 y hy; omega
          have hcs2 : ∀ y ∈ cs, y ∈ bs ∨ w.heap.size < y := fun y hy => by rcases hcs y hy with h | h; (exact .inl h); (right; omega)
          have zz4 : w.heap.size < w4.heap.size := by have := O4.size; omega
          replace ZE := ZE.off O4 (by simp only [List.mem_cons, not_or]; exact ⟨by omega, fun hm => by have := lNs _ hm; omega⟩)
          have ng0 : b0 ∉ [g8] := by simp; omega
          have ngc : g8 ∉ cs := fun hc => by rcases hcs _ hc with h | h; (have := lNs _ h; omega); omega
          have ngm : g8 ∉ bm := fun hc => by have := hm0 _ hc; omega
          replace ng0 : ¬ b0 = g8 := by simpa using ng0
          have ltM := hM.lt
          have l4s := N4.lts
          have l4 := N4.lt
          clear HD hcs O4 KD SA SB N2 hm0 HA HB
          have N2 := N4
          clear N4
          dsimp only
          refine hK.out _ _ (HS.out _ P) (fun hS => ?_)
          clear hK K
          (try simp only [List.getElem_toArray]); (try simp only [List.getElem_cons_succ]); (try simp only [List.getElem_cons_zero]); (try simp only [Act.put]); (try simp only [List.setIfInBounds_toArray]); (try simp only [List.set_cons_succ]); (try simp only [List.set_cons_zero])
          refine wpAnyH_take (i := 10) (v := ?vn24) rfl (by kernel_rfl) (by kernel_rfl) (by kernel_rfl) (fun _ _ _ h => h) (Or.inl ⟨by rfl, ?hn24⟩) hS ?rn24
          case hn24 => intro w' hSw; go_simp; (try with_reducible rfl)
          (try simp only [List.getElem_toArray]); (try simp only [List.getElem_cons_succ]); (try simp only [List.getElem_cons_zero]); (try simp only [Act.put]); (try simp only [List.setIfInBounds_toArray]); (try simp only [List.set_cons_succ]); (try simp only [List.set_cons_zero])
          refine wpAnyH_take (i := 11) (v := ?vn25) rfl (by kernel_rfl) (by kernel_rfl) (by kernel_rfl) (fun _ _ _ h => h) (Or.inl ⟨by rfl, ?hn25⟩) hS ?rn25
          case hn25 => intro w' hSw; go_simp; (try with_reducible rfl)
          (try simp only [List.getElem_toArray]); (try simp only [List.getElem_cons_succ]); (try simp only [List.getElem_cons_zero]); (try simp only [Act.put]); (try simp only [List.setIfInBounds_toArray]); (try simp only [List.set_cons_succ]); (try simp only [List.set_cons_zero])
          refine wpAnyH_take (i := 12) (v := ?vn26) rfl (by kernel_rfl) (by kernel_rfl) (by kernel_rfl) (fun _ _ _ h => h) (Or.inl ⟨by rfl, ?hn26⟩) hS ?rn26
          case hn26 => intro w' hSw; go_simp; (try with_reducible rfl)
          (try simp only [List.getElem_toArray]); (try simp only [List.getElem_cons_succ]); (try simp only [List.getElem_cons_zero]); (try simp only [Act.put]); (try simp only [List.setIfInBounds_toArray]); (try simp only [List.set_cons_succ]); (try simp only [List.set_cons_zero])
          refine wpAnyH_ready (rs := [14]) (by kernel_rfl) (by simp) ?_
          refine AllReadyH.cons (o := _) rfl (fun K hK => ?_) (AllReadyH.nil)
          refine step_store_blk rfl 36 _ _ rfl g8 #[.int .i64 (mOf x2.xQuarrel.xSome 256 fs).xQ, .slice p (mOf x2.xQuarrel.xSome 256 fs).xViews.length c] rfl rfl ZE rfl (by kernel_rfl) (by kernel_rfl) ?_
          intro w6 Z6 O6
          have P6 := P.mix O6 (fun y hy => by simp at hy; right; omega)
          have Y6 := Y.off O6 (by simp; omega)
          have N6 := N2.off O6 (by simp; exact ng0) (fun y hy hm => by simp at hm; exact ngc (hm ▸ hy))
          have M6 := hM.off O6 (fun y hy hm => by simp at hm; exact ngm (hm ▸ hy))
          refine hK.out _ _ (HS.out _ P6) (fun hS => ?_)
          clear hK K
          (try simp only [List.getElem_toArray]); (try simp only [List.getElem_cons_succ]); (try simp only [List.getElem_cons_zero]); (try simp only [Act.put]); (try simp only [List.setIfInBounds_toArray]); (try simp only [List.set_cons_succ]); (try simp only [List.set_cons_zero])
          refine wpAnyH_take (i := 15) (v := ?vn27) rfl (by kernel_rfl) (by kernel_rfl) (by kernel_rfl) (fun _ _ _ h => h) (Or.inl ⟨by rfl, ?hn27⟩) hS ?rn27
          case hn27 => intro w' hSw; go_simp; (try with_reducible rfl)
          (try simp only [List.getElem_toArray]); (try simp only [List.getElem_cons_succ]); (try simp only [List.getElem_cons_zero]); (try simp only [Act.put]); (try simp only [List.setIfInBounds_toArray]); (try simp only [List.set_cons_succ]); (try simp only [List.set_cons_zero])
          refine wpAnyH_done (by kernel_rfl) ?_ _
          clear hS
          go_wp2
          go_meet
          case rel => exact ⟨g8, p, c, bm, cs, rfl, rfl, Y6, Z6, M6, fun y hy => ⟨hm1 y hy, hm2 y hy⟩, zg8, N6, hcs2, P6⟩
      · skip
        rw [if_pos (by rfl)]
        go_simp
        have ZE := Blk.new v7 36 #[.int .i64 0, .slice none 0 0]
        have zv11 : v7.heap.size < (v7.alloc (.cells #[.int .i64 0, .slice none 0 0] 36)).heap.size := by simp
        replace P := P.alloc (.cells #[.int .i64 0, .slice none 0 0] 36)
        replace Y := Y.alloc (.cells #[.int .i64 0, .slice none 0 0] 36)
        replace N2 := N2.alloc (.cells #[.int .i64 0, .slice none 0 0] 36)
        replace SB := SB.alloc (.cells #[.int .i64 0, .slice none 0 0] 36)
        have zg8 : w.heap.size < v7.heap.size := by omega
        refine hK.out _ _ (HS.out _ P) (fun hS => ?_)
        clear hK K
        (try simp only [List.getElem_toArray]); (try simp only [List.getElem_cons_succ]); (try simp only [List.getElem_cons_zero]); (try simp only [Act.put]); (try simp only [List.setIfInBounds_toArray]); (try simp only [List.set_cons_succ]); (try simp only [List.set_cons_zero])
        generalize v7.alloc (.cells #[.int .i64 0, .slice none 0 0] 36) = v11 at *
        generalize v7.heap.size = g8 at *
        refine wpAnyH_ready (rs := [4]) (by kernel_rfl) (by simp) ?_
        refine AllReadyH.cons (o := _) rfl (fun K hK => ?_) (AllReadyH.nil)
        rw [if_pos (by rfl)]
        go_simp
        have SA := Blk.new v11 36 #[.int .i64 256, .slice pa a.xViews.length ca]
        have zv12 : v11.heap.size < (v11.alloc (.cells #[.int .i64 256, .slice pa a.xViews.length ca] 36)).heap.size := by simp
        replace P := P.alloc (.cells #[.int .i64 256, .slice pa a.xViews.length ca] 36)
        replace Y := Y.alloc (.cells #[.int .i64 256, .slice pa a.xViews.length ca] 36)
        replace N2 := N2.alloc (.cells #[.int .i64 256, .slice pa a.xViews.length ca] 36)
        replace SB := SB.alloc (.cells #[.int .i64 256, .slice pa a.xViews.length ca] 36)
        replace ZE := ZE.alloc (.cells #[.int .i64 256, .slice pa a.xViews.length ca] 36)
        have zgA : w.heap.size < v11.heap.size := by omega
        refine hK.out _ _ (HS.out _ P) (fun hS => ?_)
        clear hK K
        (try simp only [List.getElem_toArray]); (try simp only [List.getElem_cons_succ]); (try simp only [List.getElem_cons_zero]); (try simp only [Act.put]); (try simp only [List.setIfInBounds_toArray]); (try simp only [List.set_cons_succ]); (try simp only [List.set_cons_zero])
        generalize v11.alloc (.cells #[.int .i64 256, .slice pa a.xViews.length ca] 36) = v12 at *
        generalize v11.heap.size = gA at *
        refine wpAnyH_ready (rs := [9]) (by kernel_rfl) (by simp) ?_
        refine AllReadyH.cons (o := _) rfl (fun K hK => ?_) (AllReadyH.nil)
        rw [if_pos (by rfl)]
        go_simp
        go_at_call 64
        clear hS
        have hlt := fun y hy => lNs y hy
        refine (KD _ N2 _ _ (fun V h => RdMirrorS.one (m := a) (by rw [HE.out.1]; exact SA.off h (by simp only [List.mem_cons, not_or]; exact ⟨by omega, fun hm => by have := lNs _ hm; omega⟩)) (HA.out V (P.trans h)).2) (fun V h => RdMirrorS.one (m := b) (by rw [HE.out.2]; exact SB.off h (by simp only [List.mem_cons, not_or]; exact ⟨by omega, fun hm => by have := lNs _ hm; omega⟩)) (HB.out V (P.trans h)).2)).mono ?_
        rintro e w4 ⟨cs, HD, N4, hcs, O4⟩
        have HM : ∃ p c bm, e = .returned (.tuple #[.agg #[.int .i64 (mOf x2.xQuarrel.xSome 256 fs).xQ, .slice p (mOf x2.xQuarrel.xSome 256 fs).xViews.length c], .bool (!x2.xQuarrel.xSome)]) ∧ Mat w4 (.slice p (mOf x2.xQuarrel.xSome 256 fs).xViews.length c) (mOf x2.xQuarrel.xSome 256 fs).xViews bm ∧ (∀ y ∈ bm, v12.heap.size ≤ y) ∧ ∀ y ∈ bm, y ∉ cs := by
          rcases HD with ⟨hs, rfl⟩ | ⟨hs, z, bm, rfl, hM, hm1, hm2⟩
          · rw [hs]
            exact ⟨none, 0, [], rfl, Mat.nil _, (fun y hy => by cases hy), fun y hy => by cases hy⟩
          · rw [hs]
            obtain ⟨p, c, rfl⟩ := hM.value
            exact ⟨p, c, bm, rfl, hM, hm1, hm2⟩
        obtain ⟨p, c, bm, rfl, hM, hm0, hm2⟩ := HM
        replace P := P.trans O4
        replace Y := Y.off O4 (by simp only [List.mem_cons, not_or]; exact ⟨by omega, fun hm => by have := lNs _ hm; omega⟩)
        have hm1 : ∀ y ∈ bm, w.heap.size < y := fun y hy => by have := hm0 y hy; omega
        have hcs2 : ∀ y ∈ cs, y ∈ bs ∨ w.heap.size < y := fun y hy => by rcases hcs y hy with h | h; (exact .inl h); (right; omega)
        have zz4 : w.heap.size < w4.heap.size := by have := O4.size; omega
        replace ZE := ZE.off O4 (by simp only [List.mem_cons, not_or]; exact ⟨by omega, fun hm => by have := lNs _ hm; omega⟩)
        have ng0 : b0 ∉ [g8] := by simp; omega
        have ngc : g8 ∉ cs := fun hc => by rcases hcs _ hc with h | h; (have := lNs _ h; omega); omega
        have ngm : g8 ∉ bm := fun hc => by have := hm0 _ hc; omega
        replace ng0 : ¬ b0 = g8 := by simpa using ng0
        have ltM := hM.lt
        have l4s := N4.lts
        have l4 := N4.lt
        clear HD hcs O4 KD SA SB N2 hm0 HA HB
        have N2 := N4
        clear N4
        dsimp only
        refine hK.out _ _ (HS.out _ P) (fun hS => ?_)
        clear hK K
        (try simp only [List.getElem_toArray]); (try simp only [List.getElem_cons_succ]); (try simp only [List.getElem_cons_zero]); (try simp only [Act.put]); (try simp only [List.setIfInBounds_toArray]); (try simp only [List.set_cons_succ]); (try simp only [List.set_cons_zero])
        refine wpAnyH_take (i := 10) (v := ?vn28) rfl (by kernel_rfl) (by kernel_rfl) (by kernel_rfl) (fun _ _ _ h => h) (Or.inl ⟨by rfl, ?hn28⟩) hS ?rn28
        case hn28 => intro w' hSw; go_simp; (try with_reducible rfl)
        (try simp only [List.getElem_toArray]); (try simp only [List.getElem_cons_succ]); (try simp only [List.getElem_cons_zero]); (try simp only [Act.put]); (try simp only [List.setIfInBounds_toArray]); (try simp only [List.set_cons_succ]); (try simp only [List.set_cons_zero])
        refine wpAnyH_take (i := 11) (v := ?vn29) rfl (by kernel_rfl) (by kernel_rfl) (by kernel_rfl) (fun _ _ _ h => h) (Or.inl ⟨by rfl, ?hn29⟩) hS ?rn29
        case hn29 => intro w' hSw; go_simp; (try with_reducible rfl)
        (try simp only [List.getElem_toArray]); (try simp only [List.getElem_cons_succ]); (try simp only [List.getElem_cons_zero]); (try simp only [Act.put]); (try simp only [List.setIfInBounds_toArray]); (try simp only [List.set_cons_succ]); (try simp only [List.set_cons_zero])
        refine wpAnyH_take (i := 12) (v := ?vn30) rfl (by kernel_rfl) (by kernel_rfl) (by kernel_rfl) (fun _ _ _ h => h) (Or.inl ⟨by rfl, ?hn30⟩) hS ?rn30
        case hn30 => intro w' hSw; go_simp; (try with_reducible rfl)
        (try simp only [List.getElem_toArray]); (try simp only [List.getElem_cons_succ]); (try simp only [List.getElem_cons_zero]); (try simp only [Act.put]); (try simp only [List.setIfInBounds_toArray]); (try simp only [List.set_cons_succ]); (try simp only [List.set_cons_zero])
        refine wpAnyH_ready (rs := [14]) (by kernel_rfl) (by simp) ?_
        refine AllReadyH.cons (o := _) rfl (fun K hK => ?_) (AllReadyH.nil)
        refine step_store_blk rfl 36 _ _ rfl g8 #[.int .i64 (mOf x2.xQuarrel.xSome 256 fs).xQ, .slice p (mOf x2.xQuarrel.xSome 256 fs).xViews.length c] rfl rfl ZE rfl (by kernel_rfl) (by kernel_rfl) ?_
        intro w6 Z6 O6
        have P6 := P.mix O6 (fun y hy => by simp at hy; right; omega)
        have Y6 := Y.off O6 (by simp; omega)
        have N6 := N2.off O6 (by simp; exact ng0) (fun y hy hm => by simp at hm; exact ngc (hm ▸ hy))
        have M6 := hM.off O6 (fun y hy hm => by simp at hm; exact ngm (hm ▸ hy))
        refine hK.out _ _ (HS.out _ P6) (fun hS => ?_)
        clear hK K
        (try simp only [List.getElem_toArray]); (try simp only [List.getElem_cons_succ]); (try simp only [List.getElem_cons_zero]); (try simp only [Act.put]); (try simp only [List.setIfInBounds_toArray]); (try simp only [List.set_cons_succ]); (try simp only [List.set_cons_zero])
        refine wpAnyH_take (i := 15) (v := ?vn31) rfl (by kernel_rfl) (by kernel_rfl) (by kernel_rfl) (fun _ _ _ h => h) (Or.inl ⟨by rfl, ?hn31⟩) hS ?rn31
        case hn31 => intro w' hSw; go_simp; (try with_reducible rfl)
        (try simp only [List.getElem_toArray]); (try simp only [List.getElem_cons_succ]); (try simp only [List.getElem_cons_zero]); (try simp only [Act.put]); (try simp only [List.setIfInBounds_toArray]); (try simp only [List.set_cons_succ]); (try simp only [List.set_cons_zero])
        refine wpAnyH_done (by kernel_rfl) ?_ _
        clear hS
        go_wp2
        go_meet
        case rel => exact ⟨g8, p, c, bm, cs, rfl, rfl, Y6, Z6, M6, fun y hy => ⟨hm1 y hy, hm2 y hy⟩, zg8, N6, hcs2, P6⟩
    · skip
      rw [if_pos (by rfl)]
      go_simp
      have ZE := Blk.new v0 36 #[.int .i64 0, .slice none 0 0]
      have zv13 : v0.heap.size < (v0.alloc (.cells #[.int .i64 0, .slice none 0 0] 36)).heap.size := by simp
      replace P := P.alloc (.cells #[.int .i64 0, .slice none 0 0] 36)
      replace Y := Y.alloc (.cells #[.int .i64 0, .slice none 0 0] 36)
      replace N2 := N2.alloc (.cells #[.int .i64 0, .slice none 0 0] 36)
      have zg8 : w.heap.size < v0.heap.size := by omega
      refine hK.out _ _ (HS.out _ P) (fun hS => ?_)
      clear hK K
      (try simp only [List.getElem_toArray]); (try simp only [List.getElem_cons_succ]); (try simp only [List.getElem_cons_zero]); (try simp only [Act.put]); (try simp only [List.setIfInBounds_toArray]); (try simp only [List.set_cons_succ]); (try simp only [List.set_cons_zero])
      generalize v0.alloc (.cells #[.int .i64 0, .slice none 0 0] 36) = v13 at *
      generalize v0.heap.size = g8 at *
      refine wpAnyH_ready (rs := [4, 8]) (by kernel_rfl) (by simp) ?_
      refine AllReadyH.cons (o := _) rfl (fun K hK => ?_) (AllReadyH.cons (o := _) rfl (fun K hK => ?_) (AllReadyH.nil))
      · skip
        rw [if_pos (by rfl)]
        go_simp
        have SA := Blk.new v13 36 #[.int .i64 256, .slice pa a.xViews.length ca]
        have zv14 : v13.heap.size < (v13.alloc (.cells #[.int .i64 256, .slice pa a.xViews.length ca] 36)).heap.size := by simp
        replace P := P.alloc (.cells #[.int .i64 256, .slice pa a.xViews.length ca] 36)
        replace Y := Y.alloc (.cells #[.int .i64 256, .slice pa a.xViews.length ca] 36)
        replace N2 := N2.alloc (.cells #[.int .i64 256, .slice pa a.xViews.length ca] 36)
        replace ZE := ZE.alloc (.cells #[.int .i64 256, .slice pa a.xViews.length ca] 36)
        have zgA : w.heap.size < v13.heap.size := by omega
        refine hK.out _ _ (HS.out _ P) (fun hS => ?_)
        clear hK K
        (try simp only [List.getElem_toArray]); (try simp only [List.getElem_cons_succ]); (try simp only [List.getElem_cons_zero]); (try simp only [Act.put]); (try simp only [List.setIfInBounds_toArray]); (try simp only [List.set_cons_succ]); (try simp only [List.set_cons_zero])
        generalize v13.alloc (.cells #[.int .i64 256, .slice pa a.xViews.length ca] 36) = v14 at *
        generalize v13.heap.size = gA at *
        refine wpAnyH_ready (rs := [8]) (by kernel_rfl) (by simp) ?_
        refine AllReadyH.cons (o := _) rfl (fun K hK => ?_) (AllReadyH.nil)
        rw [if_pos (by rfl)]
        go_simp
        have SB := Blk.new v14 36 #[.int .i64 256, .slice pb b.xViews.length cb]
        have zv15 : v14.heap.size < (v14.alloc (.cells #[.int .i64 256, .slice pb b.xViews.length cb] 36)).heap.size := by simp
        replace P := P.alloc (.cells #[.int .i64 256, .slice pb b.xViews.length cb] 36)
        replace Y := Y.alloc (.cells #[.int .i64 256, .slice pb b.xViews.length cb] 36)
        replace N2 := N2.alloc (.cells #[.int .i64 256, .slice pb b.xViews.length cb] 36)
        replace SA := SA.alloc (.cells #[.int .i64 256, .slice pb b.xViews.length cb] 36)
        replace ZE := ZE.alloc (.cells #[.int .i64 256, .slice pb b.xViews.length cb] 36)
        have zgB : w.heap.size < v14.heap.size := by omega
        refine hK.out _ _ (HS.out _ P) (fun hS => ?_)
        clear hK K
        (try simp only [List.getElem_toArray]); (try simp only [List.getElem_cons_succ]); (try simp only [List.getElem_cons_zero]); (try simp only [Act.put]); (try simp only [List.setIfInBounds_toArray]); (try simp only [List.set_cons_succ]); (try simp only [List.set_cons_zero])
        generalize v14.alloc (.cells #[.int .i64 256, .slice pb b.xViews.length cb] 36) = v15 at *
        generalize v14.heap.size = gB at *
        refine wpAnyH_ready (rs := [9]) (by kernel_rfl) (by simp) ?_
        refine AllReadyH.cons (o := _) rfl (fun K hK => ?_) (AllReadyH.nil)
        rw [if_pos (by rfl)]
        go_simp
        go_at_call 64
        clear hS
        have hlt := fun y hy => lNs y hy
        refine (KD _ N2 _ _ (fun V h => RdMirrorS.one (m := a) (by rw [HE.out.1]; exact SA.off h (by simp only [List.mem_cons, not_or]; exact ⟨by omega, fun hm => by have := lNs _ hm; omega⟩)) (HA.out V (P.trans h)).2) (fun V h => RdMirrorS.one (m := b) (by rw [HE.out.2]; exact SB.off h (by simp only [List.mem_cons, not_or]; exact ⟨by omega, fun hm => by have := lNs _ hm; omega⟩)) (HB.out V (P.trans h)).2)).mono ?_
        rintro e w4 ⟨cs, HD, N4, hcs, O4⟩
        have HM : ∃ p c bm, e = .returned (.tuple #[.agg #[.int .i64 (mOf x2.xQuarrel.xSome 256 fs).xQ, .slice p (mOf x2.xQuarrel.xSome 256 fs).xViews.length c], .bool (!x2.xQuarrel.xSome)]) ∧ Mat w4 (.slice p (mOf x2.xQuarrel.xSome 256 fs).xViews.length c) (mOf x2.xQuarrel.xSome 256 fs).xViews bm ∧ (∀ y ∈ bm, v15.heap.size ≤ y) ∧ ∀ y ∈ bm, y ∉ cs := by
          rcases HD with ⟨hs, rfl⟩ | ⟨hs, z, bm, rfl, hM, hm1, hm2⟩
          · rw [hs]
            exact ⟨none, 0, [], rfl, Mat.nil _, (fun y hy => by cases hy), fun y hy => by cases hy⟩
          · rw [hs]
            obtain ⟨p, c, rfl⟩ := hM.value
            exact ⟨p, c, bm, rfl, hM, hm1, hm2⟩
        obtain ⟨p, c, bm, rfl, hM, hm0, hm2⟩ := HM
        replace P := P.trans O4
        replace Y := Y.off O4 (by simp only [List.mem_cons, not_or]; exact ⟨by omega, fun hm => by have := lNs _ hm; omega⟩)
        have hm1 : ∀ y ∈ bm, w.heap.size < y := fun y hy => by have := hm0 y hy; omega
        have hcs2 : ∀ y ∈ cs, y ∈ bs ∨ w.heap.size < y := fun y hy => by rcases hcs y hy with h | h; (exact .inl h); (right; omega)
        have zz4 : w.heap.size < w4.heap.size := by have := O4.size; omega
        replace ZE := ZE.off O4 (by simp only [List.mem_cons, not_or]; exact ⟨by omega, fun hm => by have := lNs _ hm; omega⟩)
        have ng0 : b0 ∉ [g8] := by simp; omega
        have ngc : g8 ∉ cs := fun hc => by rcases hcs _ hc with h | h; (have := lNs _ h; omega); omega
        have ngm : g8 ∉ bm := fun hc => by have := hm0 _ hc; omega
        replace ng0 : ¬ b0 = g8 := by simpa using ng0
        have ltM := hM.lt
        have l4s := N4.lts
        have l4 := N4.lt
        clear HD hcs O4 KD SA SB N2 hm0 HA HB
        have N2 := N4
        clear N4
        dsimp only
        refine hK.out _ _ (HS.out _ P) (fun hS => ?_)
        clear hK K
        (try simp only [List.getElem_toArray]); (try simp only [List.getElem_cons_succ]); (try simp only [List.getElem_cons_zero]); (try simp only [Act.put]); (try simp only [List.setIfInBounds_toArray]); (try simp only [List.set_cons_succ]); (try simp only [List.set_cons_zero])
        refine wpAnyH_take (i := 10) (v := ?vn32) rfl (by kernel_rfl) (by kernel_rfl) (by kernel_rfl) (fun _ _ _ h => h) (Or.inl ⟨by rfl, ?hn32⟩) hS ?rn32
        case hn32 => intro w' hSw; go_simp; (try with_reducible rfl)
        (try simp only [List.getElem_toArray]); (try simp only [List.getElem_cons_succ]); (try simp only [List.getElem_cons_zero]); (try simp only [Act.put]); (try simp only [List.setIfInBounds_toArray]); (try simp only [List.set_cons_succ]); (try simp only [List.set_cons_zero])
        refine wpAnyH_take (i := 11) (v := ?vn33) rfl (by kernel_rfl) (by kernel_rfl) (by kernel_rfl) (fun _ _ _ h => h) (Or.inl ⟨by rfl, ?hn33⟩) hS ?rn33
        case hn33 => intro w' hSw; go_simp; (try with_reducible rfl)
        (try simp only [List.getElem_toArray]); (try simp only [List.getElem_cons_succ]); (try simp only [List.getElem_cons_zero]); (try simp only [Act.put]); (try simp only [List.setIfInBounds_toArray]); (try simp only [List.set_cons_succ]); (try simp only [List.set_cons_zero])
        refine wpAnyH_take (i := 12) (v := ?vn34) rfl (by kernel_rfl) (by kernel_rfl) (by kernel_rfl) (fun _ _ _ h => h) (Or.inl ⟨by rfl, ?hn34⟩) hS ?rn34
        case hn34 => intro w' hSw; go_simp; (try with_reducible rfl)
        (try simp only [List.getElem_toArray]); (try simp only [List.getElem_cons_succ]); (try simp only [List.getElem_cons_zero]); (try simp only [Act.put]); (try simp only [List.setIfInBounds_toArray]); (try simp only [List.set_cons_succ]); (try simp only [List.set_cons_zero])
        refine wpAnyH_ready (rs := [14]) (by kernel_rfl) (by simp) ?_
        refine AllReadyH.cons (o := _) rfl (fun K hK => ?_) (AllReadyH.nil)
        refine step_store_blk rfl 36 _ _ rfl g8 #[.int .i64 (mOf x2.xQuarrel.xSome 256 fs).xQ, .slice p (mOf x2.xQuarrel.xSome 256 fs).xViews.length c] rfl rfl ZE rfl (by kernel_rfl) (by kernel_rfl) ?_
        intro w6 Z6 O6
        have P6 := P.mix O6 (fun y hy => by simp at hy; right; omega)
        have Y6 := Y.off O6 (by simp; omega)
        have N6 := N2.off O6 (by simp; exact ng0) (fun y hy hm => by simp at hm; exact ngc (hm ▸ hy))
        have M6 := hM.off O6 (fun y hy hm => by simp at hm; exact ngm (hm ▸ hy))
        refine hK.out _ _ (HS.out _ P6) (fun hS => ?_)
        clear hK K
        (try simp only [List.getElem_toArray]); (try simp only [List.getElem_cons_succ]); (try simp only [List.getElem_cons_zero]); (try simp only [Act.put]); (try simp only [List.setIfInBounds_toArray]); (try simp only [List.set_cons_succ]); (try simp only [List.set_cons_zero])
        refine wpAnyH_take (i := 15) (v := ?vn35) rfl (by kernel_rfl) (by kernel_rfl) (by kernel_rfl) (fun _ _ _ h => h) (Or.inl ⟨by rfl, ?hn35⟩) hS ?rn35
        case hn35 => intro w' hSw; go_simp; (try with_reducible rfl)
        (try simp only [List.getElem_toArray]); (try simp only [List.getElem_cons_succ]); (try simp only [List.getElem_cons_zero]); (try simp only [Act.put]); (try simp only [List.setIfInBounds_toArray]); (try simp only [List.set_cons_succ]); (try simp only [List.set_cons_zero])
        refine wpAnyH_done (by kernel_rfl) ?_ _
        clear hS
        go_wp2
        go_meet
        case rel => exact ⟨g8, p, c, bm, cs, rfl, rfl, Y6, Z6, M6, fun y hy => ⟨hm1 y hy, hm2 y hy⟩, zg8, N6, hcs2, P6⟩
      · skip
        rw [if_pos (by rfl)]
        go_simp
        have SB := Blk.new v13 36 #[.int .i64 256, .slice pb b.xViews.length cb]
        have zv16 : v13.heap.size < (v13.alloc (.cells #[.int .i64 256, .slice pb b.xViews.length cb] 36)).heap.size := by simp
        replace P := P.alloc (.cells #[.int .i64 256, .slice pb b.xViews.length cb] 36)
        replace Y := Y.alloc (.cells #[.int .i64 256, .slice pb b.xViews.length cb] 36)
        replace N2 := N2.alloc (.cells #[.int .i64 256, .slice pb b.xViews.length cb] 36)
        replace ZE := ZE.alloc (.cells #[.int .i64 256, .slice pb b.xViews.length cb] 36)
        have zgB : w.heap.size < v13.heap.size := by omega
        refine hK.out _ _ (HS.out _ P) (fun hS => ?_)
        clear hK K
        (try simp only [List.getElem_toArray]); (try simp only [List.getElem_cons_succ]); (try simp only [List.getElem_cons_zero]); (try simp only [Act.put]); (try simp only [List.setIfInBounds_toArray]); (try simp only [List.set_cons_succ]); (try simp only [List.set_cons_zero])
        generalize v13.alloc (.cells #[.int .i64 256, .slice pb b.xViews.length cb] 36) = v16 at *
        generalize v13.heap.size = gB at *
        refine wpAnyH_ready (rs := [4]) (by kernel_rfl) (by simp) ?_
        refine AllReadyH.cons (o := _) rfl (fun K hK => ?_) (AllReadyH.nil)
        rw [if_pos (by rfl)]
        go_simp
        have SA := Blk.new v16 36 #[.int .i64 256, .slice pa a.xViews.length ca]
        have zv17 : v16.heap.size < (v16.alloc (.cells #[.int .i64 256, .slice pa a.xViews.length ca] 36)).heap.size := by simp
        replace P := P.alloc (.cells #[.int .i64 256, .slice pa a.xViews.length ca] 36)
        replace Y := Y.alloc (.cells #[.int .i64 256, .slice pa a.xViews.length ca] 36)
        replace N2 := N2.alloc (.cells #[.int .i64 256, .slice pa a.xViews.length ca] 36)
        replace SB := SB.alloc (.cells #[.int .i64 256, .slice pa a.xViews.length ca] 36)
        replace ZE := ZE.alloc (.cells #[.int .i64 256, .slice pa a.xViews.length ca] 36)
        have zgA : w.heap.size < v16.heap.size := by omega
        refine hK.out _ _ (HS.out _ P) (fun hS => ?_)
        clear hK K
        (try simp only [List.getElem_toArray]); (try simp only [List.getElem_cons_succ]); (try simp only [List.getElem_cons_zero]); (try simp only [Act.put]); (try simp only [List.setIfInBounds_toArray]); (try simp only [List.set_cons_succ]); (try simp only [List.set_cons_zero])
        generalize v16.alloc (.cells #[.int .i64 256, .slice pa a.xViews.length ca] 36) = v17 at *
        generalize v16.heap.size = gA at *
        refine wpAnyH_ready (rs := [9]) (by kernel_rfl) (by simp) ?_
        refine AllReadyH.cons (o := _) rfl (fun K hK => ?_) (AllReadyH.nil)
        rw [if_pos (by rfl)]
        go_simp
        go_at_call 64
        clear hS
        have hlt := fun y hy => lNs y hy
        refine (KD _ N2 _ _ (fun V h => RdMirrorS.one (m := a) (by rw [HE.out.1]; exact SA.off h (by simp only [List.mem_cons, not_or]; exact ⟨by omega, fun hm => by have := lNs _ hm; omega⟩)) (HA.out V (P.trans h)).2) (fun V h => RdMirrorS.one (m := b) (by rw [HE.out.2]; exact SB.off h (by simp only [List.mem_cons, not_or]; exact ⟨by omega, fun hm => by have := lNs _ hm; omega⟩)) (HB.out V (P.trans h)).2)).mono ?_
        rintro e w4 ⟨cs, HD, N4, hcs, O4⟩
        have HM : ∃ p c bm, e = .returned (.tuple #[.agg #[.int .i64 (mOf x2.xQuarrel.xSome 256 fs).xQ, .slice p (mOf x2.xQuarrel.xSome 256 fs).xViews.length c], .bool (!x2.xQuarrel.xSome)]) ∧ Mat w4 (.slice p (mOf x2.xQuarrel.xSome 256 fs).xViews.length c) (mOf x2.xQuarrel.xSome 256 fs).xViews bm ∧ (∀ y ∈ bm, v17.heap.size ≤ y) ∧ ∀ y ∈ bm, y ∉ cs := by
          rcases HD with ⟨hs, rfl⟩ | ⟨hs, z, bm, rfl, hM, hm1, hm2⟩
          · rw [hs]
            exact ⟨none, 0, [], rfl, Mat.nil _, (fun y hy => by cases hy), fun y hy => by cases hy⟩
          · rw [hs]
            obtain ⟨p, c, rfl⟩ := hM.value
            exact ⟨p, c, bm, rfl, hM, hm1, hm2⟩
        obtain ⟨p, c, bm, rfl, hM, hm0, hm2⟩ := HM
        replace P := P.trans O4
        replace Y := Y.off O4 (by simp only [List.mem_cons, not_or]; exact ⟨by omega, fun hm => by have := lNs _ hm; omega⟩)
        have hm1 : ∀ y ∈ bm, w.heap.size < y := fun y hy => by have := hm0 y hy; omega
        have hcs2 : ∀ y ∈ cs, y ∈ bs ∨ w.heap.size < y := fun y hy => by rcases hcs y hy with h | h; (exact .inl h); (right; omega)
        have zz4 : w.heap.size < w4.heap.size := by have := O4.size; omega
        replace ZE := ZE.off O4 (by simp only [List.mem_cons, not_or]; exact ⟨by omega, fun hm => by have := lNs _ hm; omega⟩)
        have ng0 : b0 ∉ [g8] := by simp; omega
        have ngc : g8 ∉ cs := fun hc => by rcases hcs _ hc with h | h; (have := lNs _ h; omega); omega
        have ngm : g8 ∉ bm := fun hc => by have := hm0 _ hc; omega
        replace ng0 : ¬ b0 = g8 := by simpa using ng0
        have ltM := hM.lt
        have l4s := N4.lts
        have l4 := N4.lt
        clear HD hcs O4 KD SA SB N2 hm0 HA HB
        have N2 := N4
        clear N4
        dsimp only
        refine hK.out _ _ (HS.out _ P) (fun hS => ?_)
        clear hK K
        (try simp only [List.getElem_toArray]); (try simp only [List.getElem_cons_succ]); (try simp only [List.getElem_cons_zero]); (try simp only [Act.put]); (try simp only [List.setIfInBounds_toArray]); (try simp only [List.set_cons_succ]); (try simp only [List.set_cons_zero])
        refine wpAnyH_take (i := 10) (v := ?vn36) rfl (by kernel_rfl) (by kernel_rfl) (by kernel_rfl) (fun _ _ _ h => h) (Or.inl ⟨by rfl, ?hn36⟩) hS ?rn36
        case hn36 => intro w' hSw; go_simp; (try with_reducible rfl)
        (try simp only [List.getElem_toArray]); (try simp only [List.getElem_cons_succ]); (try simp only [List.getElem_cons_zero]); (try simp only [Act.put]); (try simp only [List.setIfInBounds_toArray]); (try simp only [List.set_cons_succ]); (try simp only [List.set_cons_zero])
        refine wpAnyH_take (i := 11) (v := ?vn37) rfl (by kernel_rfl) (by kernel_rfl) (by kernel_rfl) (fun _ _ _ h => h) (Or.inl ⟨by rfl, ?hn37⟩) hS ?rn37
        case hn37 => intro w' hSw; go_simp; (try with_reducible rfl)
        (try simp only [List.getElem_toArray]); (try simp only [List.getElem_cons_succ]); (try simp only [List.getElem_cons_zero]); (try simp only [Act.put]); (try simp only [List.setIfInBounds_toArray]); (try simp only [List.set_cons_succ]); (try simp only [List.set_cons_zero])
        refine wpAnyH_take (i := 12) (v := ?vn38) rfl (by kernel_rfl) (by kernel_rfl) (by kernel_rfl) (fun _ _ _ h => h) (Or.inl ⟨by rfl, ?hn38⟩) hS ?rn38
        case hn38 => intro w' hSw; go_simp; (try with_reducible rfl)
        (try simp only [List.getElem_toArray]); (try simp only [List.getElem_cons_succ]); (try simp only [List.getElem_cons_zero]); (try simp only [Act.put]); (try simp only [List.setIfInBounds_toArray]); (try simp only [List.set_cons_succ]); (try simp only [List.set_cons_zero])
        refine wpAnyH_ready (rs := [14]) (by kernel_rfl) (by simp) ?_
        refine AllReadyH.cons (o := _) rfl (fun K hK => ?_) (AllReadyH.nil)
        refine step_store_blk rfl 36 _ _ rfl g8 #[.int .i64 (mOf x2.xQuarrel.xSome 256 fs).xQ, .slice p (mOf x2.xQuarrel.xSome 256 fs).xViews.length c] rfl rfl ZE rfl (by kernel_rfl) (by kernel_rfl) ?_
        intro w6 Z6 O6
        have P6 := P.mix O6 (fun y hy => by simp at hy; right; omega)
        have Y6 := Y.off O6 (by simp; omega)
        have N6 := N2.off O6 (by simp; exact ng0) (fun y hy hm => by simp at hm; exact ngc (hm ▸ hy))
        have M6 := hM.off O6 (fun y hy hm => by simp at hm; exact ngm (hm ▸ hy))
        refine hK.out _ _ (HS.out _ P6) (fun hS => ?_)
        clear hK K
        (try simp only [List.getElem_toArray]); (try simp only [List.getElem_cons_succ]); (try simp only [List.getElem_cons_zero]); (try simp only [Act.put]); (try simp only [List.setIfInBounds_toArray]); (try simp only [List.set_cons_succ]); (try simp only [List.set_cons_zero])
        refine wpAnyH_take (i := 15) (v := ?vn39) rfl (by kernel_rfl) (by kernel_rfl) (by kernel_rfl) (fun _ _ _ h => h) (Or.inl ⟨by rfl, ?hn39⟩) hS ?rn39
        case hn39 => intro w' hSw; go_simp; (try with_reducible rfl)
        (try simp only [List.getElem_toArray]); (try simp only [List.getElem_cons_succ]); (try simp only [List.getElem_cons_zero]); (try simp only [Act.put]); (try simp only [List.setIfInBounds_toArray]); (try simp only [List.set_cons_succ]); (try simp only [List.set_cons_zero])
        refine wpAnyH_done (by kernel_rfl) ?_ _
        clear hS
        go_wp2
        go_meet
        case rel => exact ⟨g8, p, c, bm, cs, rfl, rfl, Y6, Z6, M6, fun y hy => ⟨hm1 y hy, hm2 y hy⟩, zg8, N6, hcs2, P6⟩
  case rest =>
    clear P1 Y1 N1 KD HS
    obtain ⟨g, p, c, bm, cs, rfl, rfl, Y6, Z6, M6, hm1, zg8, N6, hcs2, P6⟩ := hcut
    obtain ⟨w6, ewz⟩ : ∃ x : World, x = wc := ⟨_, rfl⟩
    subst ewz
    have ltM := M6.lt
    have lg6 := Z6.lt
    cases hs : x2.xQuarrel.xSome
    · rw [hs] at Z6 M6
      rw [mOf_on] at Z6 M6
      have FA6 := HA.out _ P6
      have FB6 := HB.out _ P6
      go_wp2_with fail
      refine (spec_l3Mix b1 b2 256 256 1 a.xViews b.xViews _ ⟨_, FA6.1, FA6.2, HSA.out.1.1, HSA.out.1.2, HBA.out.1⟩ ⟨_, FB6.1, FB6.2, HSA.out.2.1, HSA.out.2.2, HBA.out.2⟩ (.inr rfl) (by decide) (by decide)).mono ?_
      rintro e w7 ⟨u, bu, rfl, OU, hbu, hb7⟩
      obtain ⟨pu, cu, rfl, MU⟩ := OU
      have Z7 := Z6.keep hb7
      have M7 := M6.keep hb7
      have Y7 := Y6.keep hb7
      have N7 := N6.keep hb7
      have P7 := P6.trans (Off.ofBelow hb7)
      have z7 := hb7.size
      clear Z6 M6 Y6 N6 P6 FA6 FB6 HA HB hb7 HSA HBA
      have X7 := Blk.new w7 36 #[.int .i64 0, .slice none 0 0]
      have l7s := N7.lts
      go_wp2_with (refine wpList_store_blk rfl 36 _ _ rfl w7.heap.size #[.int .i64 256, .slice pu (mixRows 256 a.xViews b.xViews 1).length cu] rfl rfl X7 rfl (by kernel_rfl) (by kernel_rfl) ?_; intro w8 X8 O8)
      have O8' : Off [w7.heap.size] w7 w8 := ((Off.refl _ _).alloc _).trans O8
      have P8 := P7.mix O8' (fun y hy => by simp at hy; right; omega)
      have Y8 := Y7.off O8' (by simp; omega)
      have N8 := N7.off O8' (by simp; omega) (fun y hy hm => by have := l7s y hy; simp at hm; omega)
      have M8 := M7.off O8' (fun y hy hm => by have := ltM y hy; simp at hm; omega)
      have Z8 := Z7.off O8' (by simp; omega)
      have MU8 := MU.off O8' (fun y hy hm => by have := MU.lt y hy; simp at hm; omega)
      have z8 := O8'.size
      clear X7 O8 O8' P7 Y7 N7 M7 Z7 MU
      refine (spec_l3Mix w7.heap.size g 256 256 (-2) (mixRows 256 a.xViews b.xViews 1) (unflat fs) _ ⟨_, X8, MU8.reads, by rw [mixRows_add]; exact (opRows_sq _ _ _ _).1, by rw [mixRows_add]; exact (opRows_sq _ _ _ _).2, by rw [mixRows_add]; exact opRows_bd2 _ _ _⟩ ⟨_, Z8, M8.reads, (unflat_sq fs).1, (unflat_sq fs).2, unflat_bd2 HFS.out⟩ (.inr rfl) (by decide) (by decide)).mono ?_
      rintro e w9 ⟨u, bv, rfl, OV, hbv, hb9⟩
      obtain ⟨pv, cv, rfl, MV⟩ := OV
      have Y9 := Y8.keep hb9
      have N9 := N8.keep hb9
      have P9 := P8.trans (Off.ofBelow hb9)
      have l8s := N8.lts
      have z9 := hb9.size
      clear X8 Z8 M8 MU8 Y8 N8 P8 hb9
      have lY := Y9.lt
      generalize (mixRows 256 (mixRows 256 a.xViews b.xViews 1) (unflat fs) (-2)) = V at *
      go_wp2_with (refine wpList_store_blk rfl 36 _ _ rfl w.heap.size #[.int .i64 256, .slice pv V.length cv] rfl rfl Y9 rfl (by kernel_rfl) (by kernel_rfl) ?_; intro w20 Y20 O20)
      have ya := Y20.at.1
      try go_wp2
      exact bodyPost_ret (v := .tuple #[.agg #[.int .i64 256, .slice pv V.length cv], .bool true]) (by simp [results, Tryz.results87, go_sem, ya]) rfl (by rw [hs, HM1.out]; exact ⟨cs, pv, cv, bv, rfl, MV.off O20 (fun y hy hm => by have := hbv y hy; simp at hm; omega), fun y hy => ⟨by have := hbv y hy; omega, fun hc => by have := hbv y hy; have := l8s y hc; omega⟩, N9.off O20 (by simp; omega) (fun y hy hm => by simp at hm; rcases hcs2 y hy with h | h; (have := lNs _ h; omega); omega), fun y hy => by rcases hcs2 y hy with h | h; (exact .inl h); (right; omega), P9.mix O20 (fun y hy => by simp at hy; right; omega)⟩)
    · clear Z6 M6 HA HB HSA HBA HM1
      go_wp2_with (refine wpList_store_blk rfl 36 _ _ rfl w.heap.size #[.int .i64 0, .slice none 0 0] rfl rfl Y6 rfl (by kernel_rfl) (by kernel_rfl) ?_; intro w20 Y20 O20)
      have ya := Y20.at.1
      try go_wp2
      exact bodyPost_ret (v := .tuple #[.agg #[.int .i64 0, .slice none 0 0], .bool false]) (by simp [results, Tryz.results87, go_sem, ya]) rfl (by rw [hs]; exact ⟨cs, none, 0, [], rfl, Mat.nil _, (fun y hy => by cases hy), N6.off O20 (by simp; omega) (fun y hy hm => by simp at hm; rcases hcs2 y hy with h | h; (have := lNs _ h; omega); omega), fun y hy => by rcases hcs2 y hy with h | h; (exact .inl h); (right; omega), P6.mix O20 (fun y hy => by simp at hy; right; omega)⟩)
end Go.Proofs.YtepobckhfodngaoGreat
