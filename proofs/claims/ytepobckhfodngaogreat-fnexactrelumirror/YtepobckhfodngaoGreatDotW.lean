/-
  Rows of products in the program: what is answered.
-/
import Derived.Test.YtepobckhfodngaoGreatMix
import Derived.Test.YtepobckhfodngaoGreatDotS
import Derived.Test.YtepobckhfodngaoGreatDotT
import Derived.Test.YtepobckhfodngaoGreatDotV
import Derived.Test.YtepobckhfodngaoGreatMirK
import Derived.Test.YtepobckhfodngaoGreatSh
namespace Go.Proofs.YtepobckhfodngaoGreat
open Go.ChangeShapes Go.WideShapes Go.ChangeAt Go.RowKit
set_option linter.unusedVariables false

/-- the mirror that is told: none where there is a quarrel -/
def mOf (s : Bool) (q : Int) (fs : List Int) : MMirror := if s = true then ⟨0, []⟩ else ⟨q, unflat fs⟩
theorem mOf_stop (q : Int) (fs : List Int) : mOf true q fs = ⟨0, []⟩ := rfl
theorem mOf_on (q : Int) (fs : List Int) : mOf false q fs = ⟨q, unflat fs⟩ := rfl
/-- what mixOf leaves -/
def MixOut (w w' : World) (m : MMirror) (p : Option Addr) (c : Nat) : Prop := ∃ bm, Mat w' (.slice p m.xViews.length c) m.xViews bm ∧ (∀ y ∈ bm, w.heap.size ≤ y) ∧ Below w.heap.size w w'
theorem fieldMR1'' (x y z : Value) (w : World) : (Instr.field 102 (.agg #[x, y, z]) 1).run Tryz.prog w = .ok (.agg #[y, z]) w := by kernel_rfl
set_option maxHeartbeats 4000000 in
set_option maxRecDepth 100000 in
theorem impl_mixOf (q : Int) (fs : List Int) (x : MNet) (q0 q1 : Option Addr) (gH d0 d1 d2 : Nat) (w : World) (hf : fs.length = 16) :
    Calls Tryz.prog 43 #[.agg (cells1 (q :: fs)), .agg #[.slice q0 x.xTape.length d0, .slice q1 x.xUsed.length d1, .int .i64 x.xSent, .slice (some ⟨gH, 0, none⟩) x.xHeard.length d2, .int .i64 x.xCheat.xWho, .int .i64 x.xCheat.xAt, .int .i64 x.xCheat.xBy, .bool x.xCheat.xCry, .bool x.xQuarrel.xSome, .int .i64 x.xQuarrel.xFrom, .int .i64 x.xQuarrel.xCheck, .int .i64 x.xQuarrel.xTo, .int .i64 x.xQuarrel.xTold, .int .i64 x.xQuarrel.xHeard, .int .i64 x.xQuarrel.xOther, .int .i64 x.xQuarrel.xVowed]] w fun e w' => ∃ p c, e = .returned (.agg #[.int .i64 0, .int .i64 (mOf x.xQuarrel.xSome q fs).xQ, .slice p (mOf x.xQuarrel.xSome q fs).xViews.length c, .slice q0 x.xTape.length d0, .slice q1 x.xUsed.length d1, .int .i64 x.xSent, .slice (some ⟨gH, 0, none⟩) x.xHeard.length d2, .int .i64 x.xCheat.xWho, .int .i64 x.xCheat.xAt, .int .i64 x.xCheat.xBy, .bool x.xCheat.xCry, .bool x.xQuarrel.xSome, .int .i64 x.xQuarrel.xFrom, .int .i64 x.xQuarrel.xCheck, .int .i64 x.xQuarrel.xTo, .int .i64 x.xQuarrel.xTold, .int .i64 x.xQuarrel.xHeard, .int .i64 x.xQuarrel.xOther, .int .i64 x.xQuarrel.xVowed]) ∧ MixOut w w' (mOf x.xQuarrel.xSome q fs) p c := by
  generalize hs : x.xQuarrel.xSome = s
  generalize x.xTape.length = l0
  generalize x.xUsed.length = l1
  generalize x.xHeard.length = l2
  generalize x.xSent = st
  generalize x.xCheat.xWho = k0
  generalize x.xCheat.xAt = k1
  generalize x.xCheat.xBy = k2
  generalize x.xCheat.xCry = k3
  generalize x.xQuarrel.xFrom = z0
  generalize x.xQuarrel.xCheck = z1
  generalize x.xQuarrel.xTo = z2
  generalize x.xQuarrel.xTold = z3
  generalize x.xQuarrel.xHeard = z4
  generalize x.xQuarrel.xOther = z5
  generalize x.xQuarrel.xVowed = z6
  clear hs x
  have B0 : Below w.heap.size w (((w.alloc (.cells (cells1 (q :: fs)) 87)).alloc (.cells #[.slice q0 l0 d0, .slice q1 l1 d1, .int .i64 st, .slice (some ⟨gH, 0, none⟩) l2 d2, .int .i64 k0, .int .i64 k1, .int .i64 k2, .bool k3, .bool s, .int .i64 z0, .int .i64 z1, .int .i64 z2, .int .i64 z3, .int .i64 z4, .int .i64 z5, .int .i64 z6] 41)).alloc (.cells #[.int .i64 0, .int .i64 0, .slice none 0 0, .slice none 0 0, .slice none 0 0, .int .i64 0, .slice none 0 0, .int .i64 0, .int .i64 0, .int .i64 0, .bool false, .bool false, .int .i64 0, .int .i64 0, .int .i64 0, .int .i64 0, .int .i64 0, .int .i64 0, .int .i64 0] 43)) := (by repeat (first | exact Below.refl _ _ | refine Below.drew ?_ | refine below_drewN ?_ _ | refine Below.setCell ?_ (by first | omega | (simp; done) | (simp; omega)) _ | refine Below.alloc ?_ (by first | omega | (simp; done) | (simp; omega)) _))
  have V0 : Blk (((w.alloc (.cells (cells1 (q :: fs)) 87)).alloc (.cells #[.slice q0 l0 d0, .slice q1 l1 d1, .int .i64 st, .slice (some ⟨gH, 0, none⟩) l2 d2, .int .i64 k0, .int .i64 k1, .int .i64 k2, .bool k3, .bool s, .int .i64 z0, .int .i64 z1, .int .i64 z2, .int .i64 z3, .int .i64 z4, .int .i64 z5, .int .i64 z6] 41)).alloc (.cells #[.int .i64 0, .int .i64 0, .slice none 0 0, .slice none 0 0, .slice none 0 0, .int .i64 0, .slice none 0 0, .int .i64 0, .int .i64 0, .int .i64 0, .bool false, .bool false, .int .i64 0, .int .i64 0, .int .i64 0, .int .i64 0, .int .i64 0, .int .i64 0, .int .i64 0] 43)) w.heap.size 87 (cells1 (q :: fs)) := ((Blk.new w _ _).alloc _).alloc _
  have N0 : Blk (((w.alloc (.cells (cells1 (q :: fs)) 87)).alloc (.cells #[.slice q0 l0 d0, .slice q1 l1 d1, .int .i64 st, .slice (some ⟨gH, 0, none⟩) l2 d2, .int .i64 k0, .int .i64 k1, .int .i64 k2, .bool k3, .bool s, .int .i64 z0, .int .i64 z1, .int .i64 z2, .int .i64 z3, .int .i64 z4, .int .i64 z5, .int .i64 z6] 41)).alloc (.cells #[.int .i64 0, .int .i64 0, .slice none 0 0, .slice none 0 0, .slice none 0 0, .int .i64 0, .slice none 0 0, .int .i64 0, .int .i64 0, .int .i64 0, .bool false, .bool false, .int .i64 0, .int .i64 0, .int .i64 0, .int .i64 0, .int .i64 0, .int .i64 0, .int .i64 0] 43)) (w.heap.size + 1) 41 #[.slice q0 l0 d0, .slice q1 l1 d1, .int .i64 st, .slice (some ⟨gH, 0, none⟩) l2 d2, .int .i64 k0, .int .i64 k1, .int .i64 k2, .bool k3, .bool s, .int .i64 z0, .int .i64 z1, .int .i64 z2, .int .i64 z3, .int .i64 z4, .int .i64 z5, .int .i64 z6] := by simpa using (Blk.new (w.alloc (.cells (cells1 (q :: fs)) 87)) 41 #[.slice q0 l0 d0, .slice q1 l1 d1, .int .i64 st, .slice (some ⟨gH, 0, none⟩) l2 d2, .int .i64 k0, .int .i64 k1, .int .i64 k2, .bool k3, .bool s, .int .i64 z0, .int .i64 z1, .int .i64 z2, .int .i64 z3, .int .i64 z4, .int .i64 z5, .int .i64 z6]).alloc (.cells #[.int .i64 0, .int .i64 0, .slice none 0 0, .slice none 0 0, .slice none 0 0, .int .i64 0, .slice none 0 0, .int .i64 0, .int .i64 0, .int .i64 0, .bool false, .bool false, .int .i64 0, .int .i64 0, .int .i64 0, .int .i64 0, .int .i64 0, .int .i64 0, .int .i64 0] 43)
  have Y0 : Blk (((w.alloc (.cells (cells1 (q :: fs)) 87)).alloc (.cells #[.slice q0 l0 d0, .slice q1 l1 d1, .int .i64 st, .slice (some ⟨gH, 0, none⟩) l2 d2, .int .i64 k0, .int .i64 k1, .int .i64 k2, .bool k3, .bool s, .int .i64 z0, .int .i64 z1, .int .i64 z2, .int .i64 z3, .int .i64 z4, .int .i64 z5, .int .i64 z6] 41)).alloc (.cells #[.int .i64 0, .int .i64 0, .slice none 0 0, .slice none 0 0, .slice none 0 0, .int .i64 0, .slice none 0 0, .int .i64 0, .int .i64 0, .int .i64 0, .bool false, .bool false, .int .i64 0, .int .i64 0, .int .i64 0, .int .i64 0, .int .i64 0, .int .i64 0, .int .i64 0] 43)) (w.heap.size + 1 + 1) 43 #[.int .i64 0, .int .i64 0, .slice none 0 0, .slice none 0 0, .slice none 0 0, .int .i64 0, .slice none 0 0, .int .i64 0, .int .i64 0, .int .i64 0, .bool false, .bool false, .int .i64 0, .int .i64 0, .int .i64 0, .int .i64 0, .int .i64 0, .int .i64 0, .int .i64 0] := by simpa using Blk.new ((w.alloc (.cells (cells1 (q :: fs)) 87)).alloc (.cells #[.slice q0 l0 d0, .slice q1 l1 d1, .int .i64 st, .slice (some ⟨gH, 0, none⟩) l2 d2, .int .i64 k0, .int .i64 k1, .int .i64 k2, .bool k3, .bool s, .int .i64 z0, .int .i64 z1, .int .i64 z2, .int .i64 z3, .int .i64 z4, .int .i64 z5, .int .i64 z6] 41)) 43 #[.int .i64 0, .int .i64 0, .slice none 0 0, .slice none 0 0, .slice none 0 0, .int .i64 0, .slice none 0 0, .int .i64 0, .int .i64 0, .int .i64 0, .bool false, .bool false, .int .i64 0, .int .i64 0, .int .i64 0, .int .i64 0, .int .i64 0, .int .i64 0, .int .i64 0]
  have HFL : Hid (fs.length = 16) := hf
  have KR := fun W => impl_share_result q fs W hf
  have HL17 : Hid ((q :: fs).length = 17) := by show _ = _; rw [List.length_cons, hf]
  clear hf
  cases s
  · have na := N0.at.1
    have zw : (((w.alloc (.cells (cells1 (q :: fs)) 87)).alloc (.cells #[.slice q0 l0 d0, .slice q1 l1 d1, .int .i64 st, .slice (some ⟨gH, 0, none⟩) l2 d2, .int .i64 k0, .int .i64 k1, .int .i64 k2, .bool k3, .bool false, .int .i64 z0, .int .i64 z1, .int .i64 z2, .int .i64 z3, .int .i64 z4, .int .i64 z5, .int .i64 z6] 41)).alloc (.cells #[.int .i64 0, .int .i64 0, .slice none 0 0, .slice none 0 0, .slice none 0 0, .int .i64 0, .slice none 0 0, .int .i64 0, .int .i64 0, .int .i64 0, .bool false, .bool false, .int .i64 0, .int .i64 0, .int .i64 0, .int .i64 0, .int .i64 0, .int .i64 0, .int .i64 0] 43)).heap.size = w.heap.size + 1 + 1 + 1 := by simp
    go_enter Tryz.func43, Tryz.ntmps43
    go_wp2_with fail
    have Vd := V0.drew
    have Nd := N0.drew
    have Yd := Y0.drew
    have Bd := B0.drew
    have fm := fieldMR1''
    have zd : (((w.alloc (.cells (cells1 (q :: fs)) 87)).alloc (.cells #[.slice q0 l0 d0, .slice q1 l1 d1, .int .i64 st, .slice (some ⟨gH, 0, none⟩) l2 d2, .int .i64 k0, .int .i64 k1, .int .i64 k2, .bool k3, .bool false, .int .i64 z0, .int .i64 z1, .int .i64 z2, .int .i64 z3, .int .i64 z4, .int .i64 z5, .int .i64 z6] 41)).alloc (.cells #[.int .i64 0, .int .i64 0, .slice none 0 0, .slice none 0 0, .slice none 0 0, .int .i64 0, .slice none 0 0, .int .i64 0, .int .i64 0, .int .i64 0, .bool false, .bool false, .int .i64 0, .int .i64 0, .int .i64 0, .int .i64 0, .int .i64 0, .int .i64 0, .int .i64 0] 43)).drew.heap.size = w.heap.size + 1 + 1 + 1 := by simp
    clear V0 N0 Y0 B0 na zw
    generalize hwd : (((w.alloc (.cells (cells1 (q :: fs)) 87)).alloc (.cells #[.slice q0 l0 d0, .slice q1 l1 d1, .int .i64 st, .slice (some ⟨gH, 0, none⟩) l2 d2, .int .i64 k0, .int .i64 k1, .int .i64 k2, .bool k3, .bool false, .int .i64 z0, .int .i64 z1, .int .i64 z2, .int .i64 z3, .int .i64 z4, .int .i64 z5, .int .i64 z6] 41)).alloc (.cells #[.int .i64 0, .int .i64 0, .slice none 0 0, .slice none 0 0, .slice none 0 0, .int .i64 0, .slice none 0 0, .int .i64 0, .int .i64 0, .int .i64 0, .bool false, .bool false, .int .i64 0, .int .i64 0, .int .i64 0, .int .i64 0, .int .i64 0, .int .i64 0, .int .i64 0] 43)).drew = wd at *
    have HWD : Hid ((((w.alloc (.cells (cells1 (q :: fs)) 87)).alloc (.cells #[.slice q0 l0 d0, .slice q1 l1 d1, .int .i64 st, .slice (some ⟨gH, 0, none⟩) l2 d2, .int .i64 k0, .int .i64 k1, .int .i64 k2, .bool k3, .bool false, .int .i64 z0, .int .i64 z1, .int .i64 z2, .int .i64 z3, .int .i64 z4, .int .i64 z5, .int .i64 z6] 41)).alloc (.cells #[.int .i64 0, .int .i64 0, .slice none 0 0, .slice none 0 0, .slice none 0 0, .int .i64 0, .slice none 0 0, .int .i64 0, .int .i64 0, .int .i64 0, .bool false, .bool false, .int .i64 0, .int .i64 0, .int .i64 0, .int .i64 0, .int .i64 0, .int .i64 0, .int .i64 0] 43)).drew = wd) := hwd
    clear hwd
    have HSS : Hid (∀ V, Off [w.heap.size + 1 + 1] wd V → (∀ o, V.cell? ⟨w.heap.size + 1, o, none⟩ = (#[.slice q0 l0 d0, .slice q1 l1 d1, .int .i64 st, .slice (some ⟨gH, 0, none⟩) l2 d2, .int .i64 k0, .int .i64 k1, .int .i64 k2, .bool k3, .bool false, .int .i64 z0, .int .i64 z1, .int .i64 z2, .int .i64 z3, .int .i64 z4, .int .i64 z5, .int .i64 z6] : Array Value)[o]?) ∧ V.rangeAt w.heap.size 0 (cells1 (q :: fs)).toList) := fun V O => ⟨(Nd.off O (by simp)).at.1, (Vd.off O (by simp; omega)).range⟩
    refine wp_region_held (S := fun V => (∀ o, V.cell? ⟨w.heap.size + 1, o, none⟩ = (#[.slice q0 l0 d0, .slice q1 l1 d1, .int .i64 st, .slice (some ⟨gH, 0, none⟩) l2 d2, .int .i64 k0, .int .i64 k1, .int .i64 k2, .bool k3, .bool false, .int .i64 z0, .int .i64 z1, .int .i64 z2, .int .i64 z3, .int .i64 z4, .int .i64 z5, .int .i64 z6] : Array Value)[o]?) ∧ V.rangeAt w.heap.size 0 (cells1 (q :: fs)).toList) (by kernel_rfl) ?_
    try (change wpAnyH _ _ _ _ _ _ _ _ (World.drew _))
    rw [HWD.out]
    have hS := HSS.out _ (Off.refl _ _)
    refine wpAnyH_take (i := 0) (v := .agg (cells1 (q :: fs))) rfl (by kernel_rfl) (by kernel_rfl) (by kernel_rfl) (fun _ _ _ h => h) (yieldsIf_load_mid (by rfl) _ _ rfl w.heap.size 0 rfl (cells1 (q :: fs)).toList _ (fun _ h => h.2) Tryz.underlying87 rfl (by rw [Array.length_toList, cells1_size, HL17.out]; kernel_rfl)) hS ?_
    (try simp only [List.getElem_toArray]); (try simp only [List.getElem_cons_succ]); (try simp only [List.getElem_cons_zero]); (try simp only [Act.put]); (try simp only [List.setIfInBounds_toArray]); (try simp only [List.set_cons_succ]); (try simp only [List.set_cons_zero])
    refine wpAnyH_take (i := 3) (v := .agg #[.slice q0 l0 d0, .slice q1 l1 d1, .int .i64 st, .slice (some ⟨gH, 0, none⟩) l2 d2, .int .i64 k0, .int .i64 k1, .int .i64 k2, .bool k3, .bool false, .int .i64 z0, .int .i64 z1, .int .i64 z2, .int .i64 z3, .int .i64 z4, .int .i64 z5, .int .i64 z6]) rfl (by kernel_rfl) (by kernel_rfl) (by kernel_rfl) (fun _ _ _ h => h) (yieldsIf_load_mid (by rfl) _ _ rfl (w.heap.size + 1) 0 rfl (#[.slice q0 l0 d0, .slice q1 l1 d1, .int .i64 st, .slice (some ⟨gH, 0, none⟩) l2 d2, .int .i64 k0, .int .i64 k1, .int .i64 k2, .bool k3, .bool false, .int .i64 z0, .int .i64 z1, .int .i64 z2, .int .i64 z3, .int .i64 z4, .int .i64 z5, .int .i64 z6] : Array Value).toList _ (fun V h => fun j v hv => by rw [Nat.zero_add, h.1 j]; simpa using hv) Tryz.underlying41 rfl (by kernel_rfl)) hS ?_
    (try simp only [List.getElem_toArray]); (try simp only [List.getElem_cons_succ]); (try simp only [List.getElem_cons_zero]); (try simp only [Act.put]); (try simp only [List.setIfInBounds_toArray]); (try simp only [List.set_cons_succ]); (try simp only [List.set_cons_zero])
    refine wpAnyH_ready (rs := [1]) (by kernel_rfl) (by simp) ?_
    refine AllReadyH.cons (o := _) rfl (fun K hK => ?_) AllReadyH.nil
    rw [if_pos (by rfl)]
    go_simp
    go_at_call 57
    refine (KR _).mono ?_
    rintro e w5 ⟨u, bm, rfl, hO, hbm, hb5⟩
    obtain ⟨p, c, rfl, hM⟩ := hO
    have Y5 := Yd.keep hb5
    have B5 := Bd.trans (hb5.mono Bd.size)
    dsimp only
    refine hK.out _ _ (HSS.out _ (Off.ofBelow hb5)) (fun hS => ?_)
    clear hK K
    (try simp only [List.getElem_toArray]); (try simp only [List.getElem_cons_succ]); (try simp only [List.getElem_cons_zero]); (try simp only [Act.put]); (try simp only [List.setIfInBounds_toArray]); (try simp only [List.set_cons_succ]); (try simp only [List.set_cons_zero])
    refine wpAnyH_take (i := 2) (v := .agg #[.int .i64 q, .slice p (unflat fs).length c]) rfl (by kernel_rfl) (by kernel_rfl) (by kernel_rfl) (fun _ _ _ h => h) (Or.inl ⟨by rfl, ?_⟩) hS ?_
    · intro w' hSw
      go_simp
    (try simp only [List.getElem_toArray]); (try simp only [List.getElem_cons_succ]); (try simp only [List.getElem_cons_zero]); (try simp only [Act.put]); (try simp only [List.setIfInBounds_toArray]); (try simp only [List.set_cons_succ]); (try simp only [List.set_cons_zero])
    refine wpAnyH_take (i := 4) (v := .agg #[.int .i64 0, .int .i64 q, .slice p (unflat fs).length c, .slice q0 l0 d0, .slice q1 l1 d1, .int .i64 st, .slice (some ⟨gH, 0, none⟩) l2 d2, .int .i64 k0, .int .i64 k1, .int .i64 k2, .bool k3, .bool false, .int .i64 z0, .int .i64 z1, .int .i64 z2, .int .i64 z3, .int .i64 z4, .int .i64 z5, .int .i64 z6]) rfl (by kernel_rfl) (by kernel_rfl) (by kernel_rfl) (fun _ _ _ h => h) (Or.inl ⟨by rfl, ?_⟩) hS ?_
    · intro w' hSw
      go_simp
    (try simp only [List.getElem_toArray]); (try simp only [List.getElem_cons_succ]); (try simp only [List.getElem_cons_zero]); (try simp only [Act.put]); (try simp only [List.setIfInBounds_toArray]); (try simp only [List.set_cons_succ]); (try simp only [List.set_cons_zero])
    refine wpAnyH_ready (rs := [5]) (by kernel_rfl) (by simp) ?_
    refine AllReadyH.cons (o := _) rfl (fun K hK => ?_) AllReadyH.nil
    refine step_store_blk rfl 43 _ _ rfl (w.heap.size + 1 + 1) #[.int .i64 0, .int .i64 q, .slice p (unflat fs).length c, .slice q0 l0 d0, .slice q1 l1 d1, .int .i64 st, .slice (some ⟨gH, 0, none⟩) l2 d2, .int .i64 k0, .int .i64 k1, .int .i64 k2, .bool k3, .bool false, .int .i64 z0, .int .i64 z1, .int .i64 z2, .int .i64 z3, .int .i64 z4, .int .i64 z5, .int .i64 z6] rfl rfl Y5 rfl (by kernel_rfl) (by kernel_rfl) ?_
    intro w6 Y6 O6
    refine hK.out _ _ (HSS.out _ ((Off.ofBelow hb5).trans O6)) (fun hS => ?_)
    clear hK K
    (try simp only [List.getElem_toArray]); (try simp only [List.getElem_cons_succ]); (try simp only [List.getElem_cons_zero]); (try simp only [Act.put]); (try simp only [List.setIfInBounds_toArray]); (try simp only [List.set_cons_succ]); (try simp only [List.set_cons_zero])
    refine wpAnyH_done (by kernel_rfl) ?_ _
    clear hS
    try go_wp2
    have hbm2 : ∀ y ∈ bm, w.heap.size + 1 + 1 < y := fun y hy => by have := hbm y hy; omega
    exact bodyPost_ret (v := .agg #[.int .i64 0, .int .i64 q, .slice p (unflat fs).length c, .slice q0 l0 d0, .slice q1 l1 d1, .int .i64 st, .slice (some ⟨gH, 0, none⟩) l2 d2, .int .i64 k0, .int .i64 k1, .int .i64 k2, .bool k3, .bool false, .int .i64 z0, .int .i64 z1, .int .i64 z2, .int .i64 z3, .int .i64 z4, .int .i64 z5, .int .i64 z6]) (results_blk Tryz.results43 rfl Y6 Tryz.underlying43 rfl (by kernel_rfl)) rfl ⟨p, c, rfl, bm, hM.off O6 (fun y hy hm => by have := hbm2 y hy; simp at hm; omega), fun y hy => by have := hbm2 y hy; omega, B5.trans (O6.toBelow B5.size (by simp; omega))⟩
  · have na := N0.at.1
    go_enter Tryz.func43, Tryz.ntmps43
    go_wp2_with (first | (refine wpList_load_blk rfl 41 _ rfl (w.heap.size + 1) rfl N0 Tryz.underlying41 rfl (by kernel_rfl) ?_) | (refine wpList_store_blk rfl 43 _ _ rfl (w.heap.size + 1 + 1) #[.int .i64 0, .int .i64 0, .slice none 0 0, .slice q0 l0 d0, .slice q1 l1 d1, .int .i64 st, .slice (some ⟨gH, 0, none⟩) l2 d2, .int .i64 k0, .int .i64 k1, .int .i64 k2, .bool k3, .bool true, .int .i64 z0, .int .i64 z1, .int .i64 z2, .int .i64 z3, .int .i64 z4, .int .i64 z5, .int .i64 z6] rfl rfl Y0 rfl (by kernel_rfl) (by kernel_rfl) ?_; intro w6 Y6 O6))
    exact bodyPost_ret (v := .agg #[.int .i64 0, .int .i64 0, .slice none 0 0, .slice q0 l0 d0, .slice q1 l1 d1, .int .i64 st, .slice (some ⟨gH, 0, none⟩) l2 d2, .int .i64 k0, .int .i64 k1, .int .i64 k2, .bool k3, .bool true, .int .i64 z0, .int .i64 z1, .int .i64 z2, .int .i64 z3, .int .i64 z4, .int .i64 z5, .int .i64 z6]) (results_blk Tryz.results43 rfl Y6 Tryz.underlying43 rfl (by kernel_rfl)) rfl ⟨none, 0, rfl, [], Mat.nil _, (by simp), B0.trans (O6.toBelow B0.size (by simp; omega))⟩
end Go.Proofs.YtepobckhfodngaoGreat
