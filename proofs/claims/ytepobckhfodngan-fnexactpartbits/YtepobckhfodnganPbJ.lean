/-
  Bits of one part: what is answered, and the program.
-/
import Derived.Test.YtepobckhfodnganPbI
import Derived.Test.YtepobckhfodnganTy2
import Derived.Test.YtepobckhfodnganDotU
import Derived.Test.YtepobckhfodnganMirJ
import Derived.Test.YtepobckhfodnganTapeW
import Derived.Test.YtepobckhfodnganPf
namespace Go.Proofs.Ytepobckhfodngan
open Go.ChangeShapes Go.WideShapes Go.ChangeAt Go.RowKit
set_option linter.unusedVariables false

def pbL (xss : List (List Int)) (part : Nat) : List MMirror := (List.range 8).map (shM (bpF xss part))
def pbC (x : MMirror) (part : Int) : Int := if mirC x.xQ x.xViews = 0 then (if x.xQ = 256 then (if 0 ≤ part ∧ part ≤ 3 then 0 else 3) else 1) else mirC x.xQ x.xViews
def pbR (x : MMirror) (part : Int) : MManyBits := if pbC x part = 0 then ⟨0, pbL x.xViews part.toNat⟩ else ⟨pbC x part, []⟩
theorem pbR_bad {x : MMirror} {part c : Int} (h : pbC x part = c) (k : c ≠ 0) : pbR x part = ⟨c, []⟩ := by
  subst h
  exact if_neg k
theorem pbR_ok {x : MMirror} {part : Nat} (h : pbC x part = 0) : pbR x part = ⟨0, pbL x.xViews part⟩ := if_pos h
theorem pbC_ok {x : MMirror} {part : Int} (h1 : mirC x.xQ x.xViews = 0) (h2 : x.xQ = 256) (h3 : 0 ≤ part ∧ part ≤ 3) : pbC x part = 0 := by unfold pbC; rw [if_pos h1, if_pos h2, if_pos h3]
theorem pbC_part {x : MMirror} {part : Int} (h1 : mirC x.xQ x.xViews = 0) (h2 : x.xQ = 256) (h3 : ¬ (0 ≤ part ∧ part ≤ 3)) : pbC x part = 3 := by unfold pbC; rw [if_pos h1, if_pos h2, if_neg h3]
theorem pbC_q {x : MMirror} {part : Int} (h1 : mirC x.xQ x.xViews = 0) (h2 : x.xQ ≠ 256) : pbC x part = 1 := by unfold pbC; rw [if_pos h1, if_neg h2]
theorem pbC_mir {x : MMirror} {part : Int} (h1 : mirC x.xQ x.xViews ≠ 0) : pbC x part = mirC x.xQ x.xViews := if_neg h1
theorem pbC_pf (x : MMirror) (part : Int) : pbC x part = pfC 256 x part := by
  unfold pbC pfC oqC
  by_cases h1 : mirC x.xQ x.xViews = 0
  · by_cases h2 : x.xQ = 256
    · rw [if_pos h1, if_pos h2, if_pos h1, if_pos h2, if_pos rfl]
    · rw [if_pos h1, if_neg h2, if_pos h1, if_neg h2, if_neg (by decide)]
  · rw [if_neg h1, if_neg h1, if_neg h1]
theorem pbL_len (xss : List (List Int)) (part : Nat) : (pbL xss part).length = 8 := by simp [pbL]
set_option maxHeartbeats 4000000 in
set_option maxRecDepth 100000 in
theorem impl_PartBits (v : Value) (x : MMirror) (part : Int) (w : World) (hv : RdMirror w v x) :
    Calls Try.prog 9 #[v, .int .i64 part] w fun e w' => ∃ u b0, e = .returned u ∧ OwManyBits w' u (pbR x part) b0 ∧ (∀ y ∈ b0, w.heap.size ≤ y) ∧ Below w.heap.size w w' := by
  have KF := fun W (hb : Below w.heap.size w W) => impl_partFault 256 v x part W (hv.below hb)
  obtain ⟨pa, ca, rfl, ga⟩ := hv
  have B0 : Below w.heap.size w ((w.alloc (.cells #[.int .i64 x.xQ, .slice pa x.xViews.length ca] 30)).alloc (.cells #[.int .i64 0, .slice none 0 0] 28)) := (by repeat (first | exact Below.refl _ _ | refine Below.drew ?_ | refine below_drewN ?_ _ | refine Below.setCell ?_ (by first | omega | (simp; done) | (simp; omega)) _ | refine Below.alloc ?_ (by first | omega | (simp; done) | (simp; omega)) _))
  have X0 : Blk ((w.alloc (.cells #[.int .i64 x.xQ, .slice pa x.xViews.length ca] 30)).alloc (.cells #[.int .i64 0, .slice none 0 0] 28)) w.heap.size 30 #[.int .i64 x.xQ, .slice pa x.xViews.length ca] := (Blk.new w _ _).alloc _
  have R0 : Blk ((w.alloc (.cells #[.int .i64 x.xQ, .slice pa x.xViews.length ca] 30)).alloc (.cells #[.int .i64 0, .slice none 0 0] 28)) (w.heap.size + 1) 28 #[.int .i64 0, .slice none 0 0] := by simpa using Blk.new (w.alloc (.cells #[.int .i64 x.xQ, .slice pa x.xViews.length ca] 30)) 28 #[.int .i64 0, .slice none 0 0]
  by_cases hc : pfC 256 x part = 0
  · have HR0 : pbR x part = ⟨0, pbL x.xViews part.toNat⟩ := if_pos (by rw [pbC_pf]; exact hc)
    obtain ⟨h0, hp0, hp1⟩ := pfC_zero hc
    obtain ⟨h1, h2⟩ := oqC_zero h0
    obtain ⟨k, rfl⟩ : ∃ k : Nat, part = k := ⟨part.toNat, by omega⟩
    rw [HR0, show ((k : Int)).toNat = k by omega]
    rw [hc] at KF
    obtain ⟨-, m1, m2, m3, -⟩ := mirC_zero h1
    have hsq : Sq x.xViews := ⟨m1, m2⟩
    have hbd : ∀ i j, 0 ≤ pt x.xViews i j ∧ pt x.xViews i j < 256 := fun i j => by have := m3 i j; rw [h2] at this; exact this
    have hk : k < 4 := by omega
    clear HR0 hc h0 hp0 hp1
    have KV := fun W (hb : Below w.heap.size w W) => impl_viewsOf (.agg #[.int .i64 x.xQ, .slice pa x.xViews.length ca]) x W ⟨pa, ca, rfl, ga.below hb⟩ hsq
    have HVF : Hid (ag2 x.xViews = .agg (cells1 x.xViews.flatten)) := rfl
    rw [HVF.out] at KV
    have KB := fun W => impl_bitsOfPart x.xViews k W hsq hk hbd
    have KL := fun W => impl_bits_mirrors (bpF x.xViews k) W
    clear h1 h2 m1 m2 m3 hsq hbd hk ga HVF
    have hpl := pbL_len x.xViews k
    change ((List.range 8).map (shM (bpF x.xViews k))).length = 8 at hpl
    change Calls _ _ _ _ (fun e w' => ∃ u b0, e = .returned u ∧ OwManyBits w' u ⟨0, (List.range 8).map (shM (bpF x.xViews k))⟩ b0 ∧ _ ∧ _)
    have HPL : Hid (((List.range 8).map (shM (bpF x.xViews k))).length = 8) := hpl
    clear hpl
    generalize (List.range 8).map (shM (bpF x.xViews k)) = ms at *
    generalize kn (bpF x.xViews k) 136 = ks at *
    generalize x.xViews.flatten = fx at *
    go_enter Try.func9, Try.ntmps9
    go_wp2_with (refine wpList_load_blk rfl 30 _ rfl w.heap.size rfl X0 Try.underlying30 rfl (by kernel_rfl) ?_)
    refine (KF _ B0).mono ?_
    rintro e w1 ⟨rfl, hb1⟩
    have X1 := X0.keep hb1
    have R1 := R0.keep hb1
    have B1 := B0.trans (hb1.mono B0.size)
    clear X0 R0 B0 hb1 KF
    go_wp2_with (refine wpList_load_blk rfl 30 _ rfl w.heap.size rfl X1 Try.underlying30 rfl (by kernel_rfl) ?_)
    refine (KV _ B1).mono ?_
    rintro e w3 ⟨rfl, hb3⟩
    have R3 := R1.keep hb3
    have B3 := B1.trans (hb3.mono B1.size)
    clear X1 R1 B1 hb3 KV
    go_wp2_with fail
    refine (KB _).mono ?_
    rintro e w4 ⟨rfl, hb4⟩
    have R4 := R3.keep hb4
    have B4 := B3.trans (hb4.mono B3.size)
    clear R3 B3 hb4 KB
    go_wp2_with fail
    refine (KL _).mono ?_
    rintro e w5 ⟨u, bs, rfl, hM, hbs, hb5⟩
    have R5 := R4.keep hb5
    have hbs2 : ∀ y ∈ bs, w.heap.size + 1 < y := fun y hy => by have := hbs y hy; have := R4.lt; omega
    have B5 := B4.trans (hb5.mono B4.size)
    clear R4 B4 hb5 KL hbs
    obtain ⟨pm, cm, hu⟩ := hM.value
    rw [HPL.out] at hu
    subst hu
    go_wp2_with (refine wpList_store_blk rfl 28 _ _ rfl (w.heap.size + 1) #[.int .i64 0, .slice pm 8 cm] rfl rfl R5 rfl (by kernel_rfl) (by kernel_rfl) ?_; intro w9 R9 O9)
    exact bodyPost_ret (v := .agg #[.int .i64 0, .slice pm 8 cm]) (results_blk Try.results9 rfl R9 Try.underlying28 rfl (by kernel_rfl)) rfl ⟨_, bs, rfl, ⟨pm, cm, by show _ = Value.agg #[.int .i64 0, .slice pm ms.length cm]; rw [HPL.out], by show OwMirrorS _ (.slice pm ms.length cm) ms bs; rw [HPL.out]; exact hM.off O9 (fun y hy hm => by have := hbs2 y hy; simp at hm; omega)⟩, (fun y hy => by have := hbs2 y hy; omega), B5.trans (O9.toBelow B5.size (by simp))⟩
  · rw [pbR_bad (pbC_pf x part) hc]
    have hne : (pfC 256 x part != 0) = true := by simpa using hc
    generalize pfC 256 x part = r at *
    clear hc ga
    go_enter Try.func9, Try.ntmps9
    go_wp2_with (refine wpList_load_blk rfl 30 _ rfl w.heap.size rfl X0 Try.underlying30 rfl (by kernel_rfl) ?_)
    refine (KF _ B0).mono ?_
    rintro e w1 ⟨rfl, hb1⟩
    have R1 := R0.keep hb1
    have B1 := B0.trans (hb1.mono B0.size)
    clear X0 R0 B0 hb1 KF
    go_wp2_with (refine wpList_store_blk rfl 28 _ _ rfl (w.heap.size + 1) #[.int .i64 r, .slice none 0 0] rfl rfl R1 rfl (by kernel_rfl) (by kernel_rfl) ?_; intro w9 R9 O9)
    exact bodyPost_ret (v := .agg #[.int .i64 r, .slice none 0 0]) (results_blk Try.results9 rfl R9 Try.underlying28 rfl (by kernel_rfl)) rfl ⟨_, [], rfl, ⟨none, 0, rfl, OwMirrorS.nil _⟩, (fun y hy => by cases hy), B1.trans (O9.toBelow B1.size (by simp))⟩
end Go.Proofs.Ytepobckhfodngan
