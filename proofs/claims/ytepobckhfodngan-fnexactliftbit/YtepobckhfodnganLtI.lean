/-
  A part of a bit as a number, in the program: LiftBit.
-/
import Derived.Test.YtepobckhfodnganLtS
namespace Go.Proofs.Ytepobckhfodngan
open Go.ChangeShapes Go.WideShapes Go.ChangeAt Go.RowKit
set_option linter.unusedVariables false
set_option maxHeartbeats 4000000 in
set_option maxRecDepth 100000 in
theorem impl_LiftBit (v : Value) (x : MMirror) (part : Int) (w : World) (hv : RdMirror w v x) :
    Calls Try.prog 22 #[v, .int .i64 part] w fun e w' => ∃ u b0, e = .returned u ∧ OwMirrorResult w' u (lbR x part) b0 ∧ (∀ y ∈ b0, w.heap.size ≤ y) ∧ Below w.heap.size w w' := by
  have KF := fun W (hb : Below w.heap.size w W) => impl_partFault 2 v x part W (hv.below hb)
  have KV := fun W (hb : Below w.heap.size w W) hs => impl_shareOf v x W (hv.below hb) hs
  obtain ⟨pa, ca, rfl, ga⟩ := hv
  have B0 : Below w.heap.size w ((w.alloc (.cells #[.int .i64 x.xQ, .slice pa x.xViews.length ca] 30)).alloc (.cells #[.int .i64 0, .int .i64 0, .slice none 0 0] 47)) := (by repeat (first | exact Below.refl _ _ | refine Below.drew ?_ | refine below_drewN ?_ _ | refine Below.setCell ?_ (by first | omega | (simp; done) | (simp; omega)) _ | refine Below.alloc ?_ (by first | omega | (simp; done) | (simp; omega)) _))
  have X0 : Blk ((w.alloc (.cells #[.int .i64 x.xQ, .slice pa x.xViews.length ca] 30)).alloc (.cells #[.int .i64 0, .int .i64 0, .slice none 0 0] 47)) w.heap.size 30 #[.int .i64 x.xQ, .slice pa x.xViews.length ca] := (Blk.new w _ _).alloc _
  have R0 : Blk ((w.alloc (.cells #[.int .i64 x.xQ, .slice pa x.xViews.length ca] 30)).alloc (.cells #[.int .i64 0, .int .i64 0, .slice none 0 0] 47)) (w.heap.size + 1) 47 #[.int .i64 0, .int .i64 0, .slice none 0 0] := by simpa using Blk.new (w.alloc (.cells #[.int .i64 x.xQ, .slice pa x.xViews.length ca] 30)) 47 #[.int .i64 0, .int .i64 0, .slice none 0 0]
  by_cases hc : pfC 2 x part = 0
  · obtain ⟨h1, hp0, hp1⟩ := pfC_zero hc
    obtain ⟨k, rfl⟩ : ∃ k : Nat, part = k := ⟨part.toNat, by omega⟩
    rw [lbR_ok hc]
    rw [hc] at KF
    obtain ⟨h5, h6⟩ := oqC_zero h1
    obtain ⟨-, m1, m2, m3, m4⟩ := mirC_zero h5
    have hsq : Sq x.xViews := ⟨m1, m2⟩
    have hk : k < 4 := by omega
    have KS := fun W hb => KV W hb hsq
    have KL := fun W => impl_lifted x.xQ x.xViews.flatten k W (flat_len hsq) hk
    have KR := fun W => impl_share_result 256 (lfF x.xViews.flatten k) W (lfN_len _ _ _)
    have HUL : Hid ((unflat (lfF x.xViews.flatten k)).length = 4) := rfl
    clear KV hc h1 hp0 hp1 h5 h6 m1 m2 m3 m4 hsq hk ga
    generalize unflat (lfF x.xViews.flatten k) = us at *
    generalize Value.agg (cells1 (256 :: lfF x.xViews.flatten k)) = gl at *
    generalize Value.agg (cells1 (x.xQ :: x.xViews.flatten)) = gs at *
    go_enter Try.func22, Try.ntmps22
    go_wp2_with (refine wpList_load_blk rfl 30 _ rfl w.heap.size rfl X0 Try.underlying30 rfl (by kernel_rfl) ?_)
    refine (KF _ B0).mono ?_
    rintro e w1 ⟨rfl, hb1⟩
    have X1 := X0.keep hb1
    have R1 := R0.keep hb1
    have B1 := B0.trans (hb1.mono B0.size)
    clear X0 R0 B0 hb1 KF
    go_wp2_with (refine wpList_load_blk rfl 30 _ rfl w.heap.size rfl X1 Try.underlying30 rfl (by kernel_rfl) ?_)
    refine (KS _ B1).mono ?_
    rintro e w2 ⟨rfl, hb2⟩
    have R2 := R1.keep hb2
    have B2 := B1.trans (hb2.mono B1.size)
    clear X1 R1 B1 hb2 KS
    go_wp2_with fail
    refine (KL _).mono ?_
    rintro e w3 ⟨rfl, hb3⟩
    have R3 := R2.keep hb3
    have B3 := B2.trans (hb3.mono B2.size)
    clear R2 B2 hb3 KL
    go_wp2_with fail
    refine (KR _).mono ?_
    rintro e w4 ⟨u, bs, rfl, ⟨pm, cm, rfl, hM⟩, hbs, hb4⟩
    have R4 := R3.keep hb4
    have lR := R3.lt
    have hbs2 : ∀ y ∈ bs, w.heap.size + 1 < y := fun y hy => by have := hbs y hy; omega
    have B4 := B3.trans (hb4.mono B3.size)
    clear R3 B3 hb4 KR hbs
    change Mat _ (.slice pm us.length cm) us bs at hM
    rw [HUL.out]
    go_wp2_with (refine wpList_store_blk rfl 47 _ _ rfl (w.heap.size + 1) #[.int .i64 0, .int .i64 256, .slice pm 4 cm] rfl rfl R4 rfl (by kernel_rfl) (by kernel_rfl) ?_; intro w9 R9 O9)
    exact bodyPost_ret (v := .agg #[.int .i64 0, .int .i64 256, .slice pm 4 cm]) (results_blk Try.results22 rfl R9 Try.underlying47 rfl (by kernel_rfl)) rfl ⟨_, bs, rfl, ⟨pm, cm, by show _ = Value.agg #[.int .i64 0, .int .i64 256, .slice pm us.length cm]; rw [HUL.out], by show Mat _ (.slice pm us.length cm) us bs; exact hM.off O9 (fun y hy hm => by have := hbs2 y hy; simp at hm; omega)⟩, (fun y hy => by have := hbs2 y hy; omega), B4.trans (O9.toBelow B4.size (by simp))⟩
  · rw [lbR_bad rfl hc]
    have hne : (pfC 2 x part != 0) = true := by simpa using hc
    generalize pfC 2 x part = r at *
    clear hc ga KV
    go_enter Try.func22, Try.ntmps22
    go_wp2_with (refine wpList_load_blk rfl 30 _ rfl w.heap.size rfl X0 Try.underlying30 rfl (by kernel_rfl) ?_)
    refine (KF _ B0).mono ?_
    rintro e w1 ⟨rfl, hb1⟩
    have R1 := R0.keep hb1
    have B1 := B0.trans (hb1.mono B0.size)
    clear X0 R0 B0 hb1 KF
    go_wp2_with (refine wpList_store_blk rfl 47 _ _ rfl (w.heap.size + 1) #[.int .i64 r, .int .i64 0, .slice none 0 0] rfl rfl R1 rfl (by kernel_rfl) (by kernel_rfl) ?_; intro w9 R9 O9)
    exact bodyPost_ret (v := .agg #[.int .i64 r, .int .i64 0, .slice none 0 0]) (results_blk Try.results22 rfl R9 Try.underlying47 rfl (by kernel_rfl)) rfl ⟨_, [], rfl, ⟨none, 0, rfl, Mat.nil _⟩, (fun y hy => by cases hy), B1.trans (O9.toBelow B1.size (by simp))⟩
end Go.Proofs.Ytepobckhfodngan
