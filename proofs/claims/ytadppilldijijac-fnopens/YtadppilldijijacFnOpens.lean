/-
  FnOpens answers true whatever bytes it draws from: what is opened is what it is worth, for all that do not lie.
-/
import Derived.Test.YtadppilldijijacDraw9b
import Derived.Test.YtadppilldijijacLawO
import Derived.Test.YtadppilldijijacOpn3
import Derived.Test.YtadppilldijijacOpnS
import Derived.Test.YtadppilldijijacPrt3
import Derived.Test.YtadppilldijijacPrtT
import Derived.Test.YtadppilldijijacMirT
import Derived.Test.YtadppilldijijacLw
import Derived.Deep.RegionHeld3
import Derived.Deep.CutRange
import Derived.Deep.Cut
import Derived.Deep.RegionWith
import Derived.ShutString
import Derived.ChangeOld
import Derived.Below
namespace Go.Proofs.Ytadppilldijijac.fnOpens
open Go.ChangeShapes Go.WideShapes Go.ChangeAt Go.RowKit
open Go.ChangeMaps (open_string shut_string)
set_option linter.unusedVariables false

theorem own : ownKnob Try.prog.godebug = none := by kernel_rfl
theorem laidOut : laidOutB Try.prog = true := by kernel_rfl

theorem fieldOR_0 (x y : Value) (w : World) : (Instr.field 55 (.agg #[x, y]) 0).run Try.prog w = .ok x w := by kernel_rfl
theorem fieldOR_1 (x y : Value) (w : World) : (Instr.field 55 (.agg #[x, y]) 1).run Try.prog w = .ok y w := by kernel_rfl
def RdI (w : World) (v : Value) (xs : List Int) : Prop := Reads w .i64 v xs
theorem RdI.below {w w' : World} {v : Value} {xs : List Int} (h : RdI w v xs) (hb : Below w.heap.size w w') : RdI w' v xs := Reads.below h hb
set_option maxHeartbeats 16000000 in
set_option maxRecDepth 100000 in
theorem walk (a0 : Option Addr) (len0 cap0 : Nat) (z0 : List Int) (w : World) (w0 : IsRow .u8 w a0 len0 cap0 z0) :
    Calls Try.prog 5 #[.slice a0 len0 cap0] w fun e w' => e = .returned (.bool true) ∧ Below w.heap.size w w' := by
  obtain ⟨zs, rfl, hr, hw⟩ := w0.reads
  clear w0
  have hby := bytes_of hw
  clear hw
  by_cases hl : 1048576 < zs.length
  · go_enter Try.func5, Try.ntmps5
    go_wp2_with fail
    refine (lwBig_yes _ _ _ _ hl).mono ?_
    rintro e w' ⟨rfl, rfl⟩
    go_wp2
    go_ret
    exact ⟨rfl, Below.refl _ _⟩
  · have hl' : zs.length ≤ 1048576 := by omega
    have HR0 : Hid (Reads w .u8 (.slice a0 zs.length cap0) zs) := hr
    clear hr
    have fi0 := field_0
    have fi1 := field_1
    have fo0 := fieldOR_0
    have fo1 := fieldOR_1
    go_enter Try.func5, Try.ntmps5
    go_wp2_with fail
    refine (lwBig_no _ _ _ _ hl').mono ?_
    rintro e w' ⟨rfl, rfl⟩
    go_wp2_with fail
    refine (spec_DrawOpenMirror a0 cap0 zs w HR0.out hl' hby).mono ?_
    rintro e w1 ⟨u, x, who, by', rfl, hRS, B⟩
    obtain ⟨p, c, hu, rm⟩ := hRS w1 [] (Off.refl _ _) (fun z hz => by cases hz)
    subst hu
    have rM : RdMirror w1 (.agg #[.int .i64 x.xQ, .slice p x.xViews.length c]) x := ⟨p, c, rfl, rm⟩
    clear hRS rm
    have HO : Hid ((openR x.xQ x.xViews who by').xCode = 0 → _) := opens (q := x.xQ) (xss := x.xViews) (who := who) (by' := by')
    have KO := fun W h => impl_OpenMirror (.agg #[.int .i64 x.xQ, .slice p x.xViews.length c]) x who by' W h
    have KOS := fun W h => spec_OpenMirror (.agg #[.int .i64 x.xQ, .slice p x.xViews.length c]) x who by' W h
    have KV := fun W h => impl_ValueOf (.agg #[.int .i64 x.xQ, .slice p x.xViews.length c]) x who W h
    have KF := fun W h => impl_MirrorFault (.agg #[.int .i64 x.xQ, .slice p x.xViews.length c]) x W h
    generalize openR x.xQ x.xViews who by' = R at *
    generalize valueR x.xQ x.xViews who = VV at *
    generalize mirC x.xQ x.xViews = mc at *
    go_wp2_with fail
    have X3 := Blk.new w1 37 #[.int .i64 x.xQ, .slice p x.xViews.length c]
    replace rM := rM.below ((Below.refl _ _).alloc (Nat.le_refl _) (.cells #[.int .i64 x.xQ, .slice p x.xViews.length c] 37))
    replace B := B.alloc B.size (.cells #[.int .i64 x.xQ, .slice p x.xViews.length c] 37)
    generalize w1.heap.size = b3 at *
    refine Calls.at (F := fun V => Blk V b3 37 #[.int .i64 x.xQ, .slice p x.xViews.length c] ∧ RdMirror V (.agg #[.int .i64 x.xQ, .slice p x.xViews.length c]) x ∧ Below w.heap.size w V) ⟨X3, rM, B⟩ ?_
    clear X3 rM B
    rintro V1 ⟨X3, rM, B⟩
    refine (KO _ rM).mono ?_
    rintro e w2 ⟨u6, bs6, rfl, ON, -, k2⟩
    obtain ⟨pv, cv, rfl, hI⟩ := ON
    have rV : RdI w2 (.slice pv R.xValues.length cv) R.xValues := Ints.reads hI
    clear hI KO
    replace X3 := X3.keep k2
    replace rM := rM.below k2
    replace B := B.trans (k2.mono B.size)
    clear k2
    go_wp2_with fail
    have X6 := Blk.new w2 55 #[.int .i64 R.xCode, .slice pv R.xValues.length cv]
    replace X3 := X3.alloc (.cells #[.int .i64 R.xCode, .slice pv R.xValues.length cv] 55)
    replace rM := rM.below ((Below.refl _ _).alloc (Nat.le_refl _) (.cells #[.int .i64 R.xCode, .slice pv R.xValues.length cv] 55))
    replace rV := rV.below ((Below.refl _ _).alloc (Nat.le_refl _) (.cells #[.int .i64 R.xCode, .slice pv R.xValues.length cv] 55))
    replace B := B.alloc B.size (.cells #[.int .i64 R.xCode, .slice pv R.xValues.length cv] 55)
    generalize w2.heap.size = b6 at *
    refine Calls.at (F := fun V => Blk V b3 37 #[.int .i64 x.xQ, .slice p x.xViews.length c] ∧ Blk V b6 55 #[.int .i64 R.xCode, .slice pv R.xValues.length cv] ∧ RdMirror V (.agg #[.int .i64 x.xQ, .slice p x.xViews.length c]) x ∧ RdI V (.slice pv R.xValues.length cv) R.xValues ∧ Below w.heap.size w V) ⟨X3, X6, rM, rV, B⟩ ?_
    clear X3 X6 rM rV B
    rintro V3 ⟨X3, X6, rM, rV, B⟩
    refine (spec_DrawPartFrom a0 cap0 zs _ (HR0.out.below B) hl' hby).mono ?_
    rintro e w4 ⟨u7, y, part, liar, more, rfl, hRS, k4⟩
    obtain ⟨p7, c7, hu7, rm⟩ := hRS w4 [] (Off.refl _ _) (fun z hz => by cases hz)
    subst hu7
    have rY : RdMirror w4 (.agg #[.int .i64 y.xQ, .slice p7 y.xViews.length c7]) y := ⟨p7, c7, rfl, rm⟩
    clear hRS rm
    replace X3 := X3.keep k4
    replace X6 := X6.keep k4
    replace rM := rM.below k4
    replace rV := rV.below k4
    replace B := B.trans (k4.mono B.size)
    clear k4
    have KP := fun W h => impl_PartFrom (.agg #[.int .i64 y.xQ, .slice p7 y.xViews.length c7]) y part liar more W h
    have KPS := fun W h => spec_PartFrom (.agg #[.int .i64 y.xQ, .slice p7 y.xViews.length c7]) y part liar more W h
    generalize partR y.xQ y.xViews part liar more = PR at *
    go_wp2_with fail
    have X7 := Blk.new w4 37 #[.int .i64 y.xQ, .slice p7 y.xViews.length c7]
    replace X3 := X3.alloc (.cells #[.int .i64 y.xQ, .slice p7 y.xViews.length c7] 37)
    replace X6 := X6.alloc (.cells #[.int .i64 y.xQ, .slice p7 y.xViews.length c7] 37)
    replace rM := rM.below ((Below.refl _ _).alloc (Nat.le_refl _) (.cells #[.int .i64 y.xQ, .slice p7 y.xViews.length c7] 37))
    replace rV := rV.below ((Below.refl _ _).alloc (Nat.le_refl _) (.cells #[.int .i64 y.xQ, .slice p7 y.xViews.length c7] 37))
    replace rY := rY.below ((Below.refl _ _).alloc (Nat.le_refl _) (.cells #[.int .i64 y.xQ, .slice p7 y.xViews.length c7] 37))
    replace B := B.alloc B.size (.cells #[.int .i64 y.xQ, .slice p7 y.xViews.length c7] 37)
    generalize w4.heap.size = b7 at *
    refine Calls.at (F := fun V => Blk V b3 37 #[.int .i64 x.xQ, .slice p x.xViews.length c] ∧ Blk V b6 55 #[.int .i64 R.xCode, .slice pv R.xValues.length cv] ∧ Blk V b7 37 #[.int .i64 y.xQ, .slice p7 y.xViews.length c7] ∧ RdMirror V (.agg #[.int .i64 x.xQ, .slice p x.xViews.length c]) x ∧ RdI V (.slice pv R.xValues.length cv) R.xValues ∧ RdMirror V (.agg #[.int .i64 y.xQ, .slice p7 y.xViews.length c7]) y ∧ Below w.heap.size w V) ⟨X3, X6, X7, rM, rV, rY, B⟩ ?_
    clear X3 X6 X7 rM rV rY B
    rintro V5 ⟨X3, X6, X7, rM, rV, rY, B⟩
    refine (KP _ rY).mono ?_
    rintro e w6 ⟨rfl, k6⟩
    clear KP
    replace X3 := X3.keep k6
    replace X6 := X6.keep k6
    replace X7 := X7.keep k6
    replace rM := rM.below k6
    replace rV := rV.below k6
    replace rY := rY.below k6
    replace B := B.trans (k6.mono B.size)
    clear k6
    go_wp2_with fail
    have X11 := Blk.new w6 43 #[.int .i64 PR.1, .int .i64 PR.2]
    replace X3 := X3.alloc (.cells #[.int .i64 PR.1, .int .i64 PR.2] 43)
    replace X6 := X6.alloc (.cells #[.int .i64 PR.1, .int .i64 PR.2] 43)
    replace X7 := X7.alloc (.cells #[.int .i64 PR.1, .int .i64 PR.2] 43)
    replace rM := rM.below ((Below.refl _ _).alloc (Nat.le_refl _) (.cells #[.int .i64 PR.1, .int .i64 PR.2] 43))
    replace rV := rV.below ((Below.refl _ _).alloc (Nat.le_refl _) (.cells #[.int .i64 PR.1, .int .i64 PR.2] 43))
    replace rY := rY.below ((Below.refl _ _).alloc (Nat.le_refl _) (.cells #[.int .i64 PR.1, .int .i64 PR.2] 43))
    replace B := B.alloc B.size (.cells #[.int .i64 PR.1, .int .i64 PR.2] 43)
    generalize w6.heap.size = b11 at *
    generalize w6.alloc (.cells #[.int .i64 PR.1, .int .i64 PR.2] 43) = wq at *
    have ep1 : (PR.1 != PR.1) = false := by simp
    have ep2 : (PR.2 != PR.2) = false := by simp
    refine wp_region_held (S := fun V => (∀ o, V.cell? ⟨b7, o, none⟩ = (#[.int .i64 y.xQ, .slice p7 y.xViews.length c7] : Array Value)[o]?) ∧ (∀ o, V.cell? ⟨b11, o, none⟩ = (#[.int .i64 PR.1, .int .i64 PR.2] : Array Value)[o]?)) (by kernel_rfl) ?_
    try (change wpAnyH _ _ _ _ _ _ _ _ (World.drew _))
    replace X3 := X3.drew
    replace X6 := X6.drew
    replace X7 := X7.drew
    replace X11 := X11.drew
    replace rM := rM.below (Below.refl _ _).drew
    replace rV := rV.below (Below.refl _ _).drew
    replace rY := rY.below (Below.refl _ _).drew
    replace B := B.drew
    have hS : (∀ o, wq.drew.cell? ⟨b7, o, none⟩ = (#[.int .i64 y.xQ, .slice p7 y.xViews.length c7] : Array Value)[o]?) ∧ (∀ o, wq.drew.cell? ⟨b11, o, none⟩ = (#[.int .i64 PR.1, .int .i64 PR.2] : Array Value)[o]?) := ⟨X7.at.1, X11.at.1⟩
    refine wpAnyH_take (i := 0) (v := ?vn222) rfl (by kernel_rfl) (by kernel_rfl) (by kernel_rfl) (fun _ _ _ h => h) (Or.inl ⟨by rfl, ?hn222⟩) hS ?rn222
    case hn222 => intro w' hSw; go_simp; (try with_reducible rfl)
    (try simp only [List.getElem_toArray]); (try simp only [List.getElem_cons_succ]); (try simp only [List.getElem_cons_zero]); (try simp only [Act.put]); (try simp only [List.setIfInBounds_toArray]); (try simp only [List.set_cons_succ]); (try simp only [List.set_cons_zero])
    refine wpAnyH_take (i := 1) (v := ?vn223) rfl (by kernel_rfl) (by kernel_rfl) (by kernel_rfl) (fun _ _ _ h => h) (Or.inl ⟨by rfl, ?hn223⟩) hS ?rn223
    case hn223 => intro w' hSw; go_simp; (try with_reducible rfl)
    (try simp only [List.getElem_toArray]); (try simp only [List.getElem_cons_succ]); (try simp only [List.getElem_cons_zero]); (try simp only [Act.put]); (try simp only [List.setIfInBounds_toArray]); (try simp only [List.set_cons_succ]); (try simp only [List.set_cons_zero])
    refine wpAnyH_take (i := 2) (v := ?vn224) rfl (by kernel_rfl) (by kernel_rfl) (by kernel_rfl) (fun _ _ _ h => h) (Or.inl ⟨by rfl, ?hn224⟩) hS ?rn224
    case hn224 => intro w' hSw; go_simp; (try with_reducible rfl)
    (try simp only [List.getElem_toArray]); (try simp only [List.getElem_cons_succ]); (try simp only [List.getElem_cons_zero]); (try simp only [Act.put]); (try simp only [List.setIfInBounds_toArray]); (try simp only [List.set_cons_succ]); (try simp only [List.set_cons_zero])
    refine wpAnyH_take (i := 3) (v := ?vn225) rfl (by kernel_rfl) (by kernel_rfl) (by kernel_rfl) (fun _ _ _ h => h) (Or.inl ⟨by rfl, ?hn225⟩) hS ?rn225
    case hn225 => intro w' hSw; go_simp; (try with_reducible rfl)
    (try simp only [List.getElem_toArray]); (try simp only [List.getElem_cons_succ]); (try simp only [List.getElem_cons_zero]); (try simp only [Act.put]); (try simp only [List.setIfInBounds_toArray]); (try simp only [List.set_cons_succ]); (try simp only [List.set_cons_zero])
    refine wpAnyH_take (i := 4) (v := ?vn226) rfl (by kernel_rfl) (by kernel_rfl) (by kernel_rfl) (fun _ _ _ h => h) (Or.inl ⟨by rfl, ?hn226⟩) hS ?rn226
    case hn226 => intro w' hSw; go_simp; (try with_reducible rfl)
    (try simp only [List.getElem_toArray]); (try simp only [List.getElem_cons_succ]); (try simp only [List.getElem_cons_zero]); (try simp only [Act.put]); (try simp only [List.setIfInBounds_toArray]); (try simp only [List.set_cons_succ]); (try simp only [List.set_cons_zero])
    refine wpAnyH_take (i := 5) (v := ?vn227) rfl (by kernel_rfl) (by kernel_rfl) (by kernel_rfl) (fun _ _ _ h => h) (Or.inl ⟨by rfl, ?hn227⟩) hS ?rn227
    case hn227 => intro w' hSw; go_simp; (try with_reducible rfl)
    (try simp only [List.getElem_toArray]); (try simp only [List.getElem_cons_succ]); (try simp only [List.getElem_cons_zero]); (try simp only [Act.put]); (try simp only [List.setIfInBounds_toArray]); (try simp only [List.set_cons_succ]); (try simp only [List.set_cons_zero])
    refine wpAnyH_ready (rs := [6]) (by kernel_rfl) (by simp) ?_
    refine AllReadyH.cons (o := _) rfl (fun K hK => ?_) AllReadyH.nil
    rw [if_pos (by rfl)]
    go_simp
    go_at_call 21
    clear hS
    refine (KPS _ rY).mono ?_
    rintro e w7 ⟨rfl, k7⟩
    replace X3 := X3.keep k7
    replace X6 := X6.keep k7
    replace X7 := X7.keep k7
    replace X11 := X11.keep k7
    replace rM := rM.below k7
    replace rV := rV.below k7
    replace rY := rY.below k7
    replace B := B.trans (k7.mono B.size)
    clear k7
    have hS : (∀ o, w7.cell? ⟨b7, o, none⟩ = (#[.int .i64 y.xQ, .slice p7 y.xViews.length c7] : Array Value)[o]?) ∧ (∀ o, w7.cell? ⟨b11, o, none⟩ = (#[.int .i64 PR.1, .int .i64 PR.2] : Array Value)[o]?) := ⟨X7.at.1, X11.at.1⟩
    refine hK.out _ _ hS (fun hS => ?_)
    clear hK K
    (try simp only [List.getElem_toArray]); (try simp only [List.getElem_cons_succ]); (try simp only [List.getElem_cons_zero]); (try simp only [Act.put]); (try simp only [List.setIfInBounds_toArray]); (try simp only [List.set_cons_succ]); (try simp only [List.set_cons_zero])
    refine wpAnyH_take (i := 7) (v := ?vn228) rfl (by kernel_rfl) (by kernel_rfl) (by kernel_rfl) (fun _ _ _ h => h) (Or.inl ⟨by rfl, ?hn228⟩) hS ?rn228
    case hn228 => intro w' hSw; go_simp; (try with_reducible rfl)
    (try simp only [List.getElem_toArray]); (try simp only [List.getElem_cons_succ]); (try simp only [List.getElem_cons_zero]); (try simp only [Act.put]); (try simp only [List.setIfInBounds_toArray]); (try simp only [List.set_cons_succ]); (try simp only [List.set_cons_zero])
    refine wpAnyH_take (i := 8) (v := ?vn229) rfl (by kernel_rfl) (by kernel_rfl) (by kernel_rfl) (fun _ _ _ h => h) (Or.inl ⟨by rfl, ?hn229⟩) hS ?rn229
    case hn229 => intro w' hSw; go_simp; (try with_reducible rfl)
    (try simp only [List.getElem_toArray]); (try simp only [List.getElem_cons_succ]); (try simp only [List.getElem_cons_zero]); (try simp only [Act.put]); (try simp only [List.setIfInBounds_toArray]); (try simp only [List.set_cons_succ]); (try simp only [List.set_cons_zero])
    refine wpAnyH_take (i := 9) (v := ?vn230) rfl (by kernel_rfl) (by kernel_rfl) (by kernel_rfl) (fun _ _ _ h => h) (Or.inl ⟨by rfl, ?hn230⟩) hS ?rn230
    case hn230 => intro w' hSw; go_simp; (try with_reducible rfl)
    (try simp only [List.getElem_toArray]); (try simp only [List.getElem_cons_succ]); (try simp only [List.getElem_cons_zero]); (try simp only [Act.put]); (try simp only [List.setIfInBounds_toArray]); (try simp only [List.set_cons_succ]); (try simp only [List.set_cons_zero])
    refine wpAnyH_take (i := 10) (v := ?vn231) rfl (by kernel_rfl) (by kernel_rfl) (by kernel_rfl) (fun _ _ _ h => h) (Or.inl ⟨by rfl, ?hn231⟩) hS ?rn231
    case hn231 => intro w' hSw; go_simp; (try with_reducible rfl)
    (try simp only [List.getElem_toArray]); (try simp only [List.getElem_cons_succ]); (try simp only [List.getElem_cons_zero]); (try simp only [Act.put]); (try simp only [List.setIfInBounds_toArray]); (try simp only [List.set_cons_succ]); (try simp only [List.set_cons_zero])
    refine wpAnyH_take (i := 11) (v := ?vn232) rfl (by kernel_rfl) (by kernel_rfl) (by kernel_rfl) (fun _ _ _ h => h) (Or.inl ⟨by rfl, ?hn232⟩) hS ?rn232
    case hn232 => intro w' hSw; go_simp; (try with_reducible rfl)
    (try simp only [List.getElem_toArray]); (try simp only [List.getElem_cons_succ]); (try simp only [List.getElem_cons_zero]); (try simp only [Act.put]); (try simp only [List.setIfInBounds_toArray]); (try simp only [List.set_cons_succ]); (try simp only [List.set_cons_zero])
    refine wpAnyH_take (i := 12) (v := ?vn233) rfl (by kernel_rfl) (by kernel_rfl) (by kernel_rfl) (fun _ _ _ h => h) (Or.inl ⟨by rfl, ?hn233⟩) hS ?rn233
    case hn233 => intro w' hSw; go_simp; (try with_reducible rfl)
    (try simp only [List.getElem_toArray]); (try simp only [List.getElem_cons_succ]); (try simp only [List.getElem_cons_zero]); (try simp only [Act.put]); (try simp only [List.setIfInBounds_toArray]); (try simp only [List.set_cons_succ]); (try simp only [List.set_cons_zero])
    refine wpAnyH_take (i := 13) (v := ?vn234) rfl (by kernel_rfl) (by kernel_rfl) (by kernel_rfl) (fun _ _ _ h => h) (Or.inl ⟨by rfl, ?hn234⟩) hS ?rn234
    case hn234 => intro w' hSw; go_simp; (try with_reducible rfl)
    (try simp only [List.getElem_toArray]); (try simp only [List.getElem_cons_succ]); (try simp only [List.getElem_cons_zero]); (try simp only [Act.put]); (try simp only [List.setIfInBounds_toArray]); (try simp only [List.set_cons_succ]); (try simp only [List.set_cons_zero])
    refine wpAnyH_take (i := 14) (v := ?vn235) rfl (by kernel_rfl) (by kernel_rfl) (by kernel_rfl) (fun _ _ _ h => h) (Or.inl ⟨by rfl, ?hn235⟩) hS ?rn235
    case hn235 => intro w' hSw; go_simp; (try with_reducible rfl)
    (try simp only [List.getElem_toArray]); (try simp only [List.getElem_cons_succ]); (try simp only [List.getElem_cons_zero]); (try simp only [Act.put]); (try simp only [List.setIfInBounds_toArray]); (try simp only [List.set_cons_succ]); (try simp only [List.set_cons_zero])
    refine wpAnyH_take (i := 15) (v := ?vn236) rfl (by kernel_rfl) (by kernel_rfl) (by kernel_rfl) (fun _ _ _ h => h) (Or.inl ⟨by rfl, ?hn236⟩) hS ?rn236
    case hn236 => intro w' hSw; go_simp; (try with_reducible rfl)
    (try simp only [List.getElem_toArray]); (try simp only [List.getElem_cons_succ]); (try simp only [List.getElem_cons_zero]); (try simp only [Act.put]); (try simp only [List.setIfInBounds_toArray]); (try simp only [List.set_cons_succ]); (try simp only [List.set_cons_zero])
    refine wpAnyH_ready (rs := [16]) (by kernel_rfl) (by simp) ?_
    refine AllReadyH.cons (o := _) rfl (fun K hK => ?_) AllReadyH.nil
    rw [if_pos (by rfl)]
    go_simp
    go_at_call 21
    clear hS
    refine (KPS _ rY).mono ?_
    rintro e w8 ⟨rfl, k8⟩
    replace X3 := X3.keep k8
    replace X6 := X6.keep k8
    replace X7 := X7.keep k8
    replace X11 := X11.keep k8
    replace rM := rM.below k8
    replace rV := rV.below k8
    replace rY := rY.below k8
    replace B := B.trans (k8.mono B.size)
    clear k8
    have hS : (∀ o, w8.cell? ⟨b7, o, none⟩ = (#[.int .i64 y.xQ, .slice p7 y.xViews.length c7] : Array Value)[o]?) ∧ (∀ o, w8.cell? ⟨b11, o, none⟩ = (#[.int .i64 PR.1, .int .i64 PR.2] : Array Value)[o]?) := ⟨X7.at.1, X11.at.1⟩
    refine hK.out _ _ hS (fun hS => ?_)
    clear hK K
    (try simp only [List.getElem_toArray]); (try simp only [List.getElem_cons_succ]); (try simp only [List.getElem_cons_zero]); (try simp only [Act.put]); (try simp only [List.setIfInBounds_toArray]); (try simp only [List.set_cons_succ]); (try simp only [List.set_cons_zero])
    refine wpAnyH_take (i := 17) (v := ?vn237) rfl (by kernel_rfl) (by kernel_rfl) (by kernel_rfl) (fun _ _ _ h => h) (Or.inl ⟨by rfl, ?hn237⟩) hS ?rn237
    case hn237 => intro w' hSw; go_simp; (try with_reducible rfl)
    (try simp only [List.getElem_toArray]); (try simp only [List.getElem_cons_succ]); (try simp only [List.getElem_cons_zero]); (try simp only [Act.put]); (try simp only [List.setIfInBounds_toArray]); (try simp only [List.set_cons_succ]); (try simp only [List.set_cons_zero])
    refine wpAnyH_take (i := 18) (v := ?vn238) rfl (by kernel_rfl) (by kernel_rfl) (by kernel_rfl) (fun _ _ _ h => h) (Or.inl ⟨by rfl, ?hn238⟩) hS ?rn238
    case hn238 => intro w' hSw; go_simp; (try with_reducible rfl)
    (try simp only [List.getElem_toArray]); (try simp only [List.getElem_cons_succ]); (try simp only [List.getElem_cons_zero]); (try simp only [Act.put]); (try simp only [List.setIfInBounds_toArray]); (try simp only [List.set_cons_succ]); (try simp only [List.set_cons_zero])
    refine wpAnyH_take (i := 19) (v := ?vn239) rfl (by kernel_rfl) (by kernel_rfl) (by kernel_rfl) (fun _ _ _ h => h) (Or.inl ⟨by rfl, ?hn239⟩) hS ?rn239
    case hn239 => intro w' hSw; go_simp; (try with_reducible rfl)
    (try simp only [List.getElem_toArray]); (try simp only [List.getElem_cons_succ]); (try simp only [List.getElem_cons_zero]); (try simp only [Act.put]); (try simp only [List.setIfInBounds_toArray]); (try simp only [List.set_cons_succ]); (try simp only [List.set_cons_zero])
    refine wpAnyH_done (by kernel_rfl) ?_ _
    clear hS
    clear KPS X7 X11 rY ep1 ep2
    by_cases hf : R.xCode = 0
    · as_aux_lemma =>
        obtain ⟨hmc, hlen, hval⟩ := HO.out hf
        have HVL : Hid (VV.xCode = 0 → ∀ i : Nat, i < 4 → (i : Int) ≠ who → R.xValues.getD i 0 = VV.xValue) := hval
        have HL4 : Hid (R.xValues.length = 4) := hlen
        rw [hmc] at KF
        clear hval HO hmc
        have ef : (R.xCode != 0) = false := by simpa using hf
        have el : ((R.xValues.length : Int) != 4) = false := by rw [hlen]; rfl
        clear hf hlen
        have X6a := X6.at.1
        have X6l := X6.lt
        have X3a := X3.at.1
        have X3l := X3.lt
        go_wp2_with fail
        clear X6a X6l X3a X3l
        refine (KV _ rM).mono ?_
        rintro e w9 ⟨u12, rfl, hu12, k9⟩
        unfold RdIntResult at hu12
        subst hu12
        clear KV
        replace X3 := X3.keep k9
        replace X6 := X6.keep k9
        replace rM := rM.below k9
        replace rV := rV.below k9
        replace B := B.trans (k9.mono B.size)
        clear k9
        go_wp2_with fail
        have X12 := Blk.new w9 43 #[.int .i64 VV.xCode, .int .i64 VV.xValue]
        replace X3 := X3.alloc (.cells #[.int .i64 VV.xCode, .int .i64 VV.xValue] 43)
        replace X6 := X6.alloc (.cells #[.int .i64 VV.xCode, .int .i64 VV.xValue] 43)
        replace rM := rM.below ((Below.refl _ _).alloc (Nat.le_refl _) (.cells #[.int .i64 VV.xCode, .int .i64 VV.xValue] 43))
        replace rV := rV.below ((Below.refl _ _).alloc (Nat.le_refl _) (.cells #[.int .i64 VV.xCode, .int .i64 VV.xValue] 43))
        replace B := B.alloc B.size (.cells #[.int .i64 VV.xCode, .int .i64 VV.xValue] 43)
        generalize w9.heap.size = b12 at *
        generalize w9.alloc (.cells #[.int .i64 VV.xCode, .int .i64 VV.xValue] 43) = wp at *
        obtain ⟨gv, ov, e0, -, -⟩ := (show Reads _ .i64 _ _ from rV).one 0 (by rw [HL4.out]; omega)
        subst e0
        go_loopw [13] (fun i wr => ∃ k : Nat, k ≤ 4 ∧ i = .int .i64 k ∧ Blk wr b3 37 #[.int .i64 x.xQ, .slice p x.xViews.length c] ∧ Blk wr b6 55 #[.int .i64 R.xCode, .slice (some ⟨gv, ov, none⟩) R.xValues.length cv] ∧ Blk wr b12 43 #[.int .i64 VV.xCode, .int .i64 VV.xValue] ∧ RdMirror wr (.agg #[.int .i64 x.xQ, .slice p x.xViews.length c]) x ∧ RdI wr (.slice (some ⟨gv, ov, none⟩) R.xValues.length cv) R.xValues ∧ Below w.heap.size w wr) (fun i _ => 4 - (intOf i).toNat)
        case atStart => exact ⟨0, Nat.zero_le _, rfl, X3, X6, X12, rM, rV, B⟩
        case round =>
          clear X3 X6 X12 rM rV B
          obtain ⟨k, hk, rfl, X3, X6, X12, rM, rV, B⟩ := hrel
          by_cases hlt : k < 4
          · have hi : (k : Int) < 4 := by omega
            by_cases hcv : VV.xCode = 0
            · have ecv : (VV.xCode == 0) = true := by simpa using hcv
              have hkv := HVL.out hcv k hlt
              clear hcv
              obtain ⟨g9, o9, e9, -, c9⟩ := (show Reads _ .i64 _ _ from rV).one k (by rw [HL4.out]; exact hlt)
              simp only [Option.some.injEq, Addr.mk.injEq, and_true] at e9
              obtain ⟨rfl, rfl⟩ := e9
              have hkl : (k : Int) < (R.xValues.length : Int) := by rw [HL4.out]; omega
              have hk0 : (0 : Int) ≤ (k : Int) := by omega
              by_cases hkw : (k : Int) = who
              · have ekw : ((k : Int) != who) = false := by simpa using hkw
                clear hkw hkv
                have X12a := X12.at.1
                have X12l := X12.lt
                go_wp2_with fail
                clear X12a X12l
                refine wp_region_held (S := fun V => (∀ o, V.cell? ⟨b6, o, none⟩ = (#[.int .i64 R.xCode, .slice (some ⟨gv, ov, none⟩) R.xValues.length cv] : Array Value)[o]?) ∧ (∀ o, V.cell? ⟨b12, o, none⟩ = (#[.int .i64 VV.xCode, .int .i64 VV.xValue] : Array Value)[o]?) ∧ V.cell? ⟨gv, ov + k, none⟩ = some (.int .i64 (R.xValues.getD k 0))) (by kernel_rfl) ?_
                try (change wpAnyH _ _ _ _ _ _ _ _ (World.drew _))
                replace X3 := X3.drew
                replace X6 := X6.drew
                replace X12 := X12.drew
                replace rM := rM.below (Below.refl _ _).drew
                replace rV := rV.below (Below.refl _ _).drew
                replace B := B.drew
                have hS : (∀ o, wr.drew.cell? ⟨b6, o, none⟩ = (#[.int .i64 R.xCode, .slice (some ⟨gv, ov, none⟩) R.xValues.length cv] : Array Value)[o]?) ∧ (∀ o, wr.drew.cell? ⟨b12, o, none⟩ = (#[.int .i64 VV.xCode, .int .i64 VV.xValue] : Array Value)[o]?) ∧ wr.drew.cell? ⟨gv, ov + k, none⟩ = some (.int .i64 (R.xValues.getD k 0)) := ⟨X6.at.1, X12.at.1, c9⟩
                refine wpAnyH_take (i := 0) (v := ?vn240) rfl (by kernel_rfl) (by kernel_rfl) (by kernel_rfl) (fun _ _ _ h => h) (Or.inl ⟨by rfl, ?hn240⟩) hS ?rn240
                case hn240 => intro w' hSw; go_simp; (try with_reducible rfl)
                (try simp only [List.getElem_toArray]); (try simp only [List.getElem_cons_succ]); (try simp only [List.getElem_cons_zero]); (try simp only [Act.put]); (try simp only [List.setIfInBounds_toArray]); (try simp only [List.set_cons_succ]); (try simp only [List.set_cons_zero])
                refine wpAnyH_take (i := 1) (v := ?vn241) rfl (by kernel_rfl) (by kernel_rfl) (by kernel_rfl) (fun _ _ _ h => h) (Or.inl ⟨by rfl, ?hn241⟩) hS ?rn241
                case hn241 => intro w' hSw; go_simp; (try with_reducible rfl)
                (try simp only [List.getElem_toArray]); (try simp only [List.getElem_cons_succ]); (try simp only [List.getElem_cons_zero]); (try simp only [Act.put]); (try simp only [List.setIfInBounds_toArray]); (try simp only [List.set_cons_succ]); (try simp only [List.set_cons_zero])
                refine wpAnyH_take (i := 2) (v := ?vn242) rfl (by kernel_rfl) (by kernel_rfl) (by kernel_rfl) (fun _ _ _ h => h) (Or.inl ⟨by rfl, ?hn242⟩) hS ?rn242
                case hn242 => intro w' hSw; go_simp; (try with_reducible rfl)
                (try simp only [List.getElem_toArray]); (try simp only [List.getElem_cons_succ]); (try simp only [List.getElem_cons_zero]); (try simp only [Act.put]); (try simp only [List.setIfInBounds_toArray]); (try simp only [List.set_cons_succ]); (try simp only [List.set_cons_zero])
                refine wpAnyH_take (i := 3) (v := ?vn243) rfl (by kernel_rfl) (by kernel_rfl) (by kernel_rfl) (fun _ _ _ h => h) (Or.inl ⟨by rfl, ?hn243⟩) hS ?rn243
                case hn243 => intro w' hSw; go_simp; (try with_reducible rfl)
                (try simp only [List.getElem_toArray]); (try simp only [List.getElem_cons_succ]); (try simp only [List.getElem_cons_zero]); (try simp only [Act.put]); (try simp only [List.setIfInBounds_toArray]); (try simp only [List.set_cons_succ]); (try simp only [List.set_cons_zero])
                refine wpAnyH_take (i := 4) (v := undef) rfl (by kernel_rfl) (by kernel_rfl) (by kernel_rfl) (fun _ _ _ h => h) (Or.inr ⟨by rfl, rfl⟩) hS ?_
                (try simp only [List.getElem_toArray]); (try simp only [List.getElem_cons_succ]); (try simp only [List.getElem_cons_zero]); (try simp only [Act.put]); (try simp only [List.setIfInBounds_toArray]); (try simp only [List.set_cons_succ]); (try simp only [List.set_cons_zero])
                refine wpAnyH_take (i := 5) (v := undef) rfl (by kernel_rfl) (by kernel_rfl) (by kernel_rfl) (fun _ _ _ h => h) (Or.inr ⟨by rfl, rfl⟩) hS ?_
                (try simp only [List.getElem_toArray]); (try simp only [List.getElem_cons_succ]); (try simp only [List.getElem_cons_zero]); (try simp only [Act.put]); (try simp only [List.setIfInBounds_toArray]); (try simp only [List.set_cons_succ]); (try simp only [List.set_cons_zero])
                refine wpAnyH_take (i := 6) (v := undef) rfl (by kernel_rfl) (by kernel_rfl) (by kernel_rfl) (fun _ _ _ h => h) (Or.inr ⟨by rfl, rfl⟩) hS ?_
                (try simp only [List.getElem_toArray]); (try simp only [List.getElem_cons_succ]); (try simp only [List.getElem_cons_zero]); (try simp only [Act.put]); (try simp only [List.setIfInBounds_toArray]); (try simp only [List.set_cons_succ]); (try simp only [List.set_cons_zero])
                refine wpAnyH_take (i := 7) (v := undef) rfl (by kernel_rfl) (by kernel_rfl) (by kernel_rfl) (fun _ _ _ h => h) (Or.inr ⟨by rfl, rfl⟩) hS ?_
                (try simp only [List.getElem_toArray]); (try simp only [List.getElem_cons_succ]); (try simp only [List.getElem_cons_zero]); (try simp only [Act.put]); (try simp only [List.setIfInBounds_toArray]); (try simp only [List.set_cons_succ]); (try simp only [List.set_cons_zero])
                refine wpAnyH_take (i := 8) (v := undef) rfl (by kernel_rfl) (by kernel_rfl) (by kernel_rfl) (fun _ _ _ h => h) (Or.inr ⟨by rfl, rfl⟩) hS ?_
                (try simp only [List.getElem_toArray]); (try simp only [List.getElem_cons_succ]); (try simp only [List.getElem_cons_zero]); (try simp only [Act.put]); (try simp only [List.setIfInBounds_toArray]); (try simp only [List.set_cons_succ]); (try simp only [List.set_cons_zero])
                refine wpAnyH_take (i := 9) (v := undef) rfl (by kernel_rfl) (by kernel_rfl) (by kernel_rfl) (fun _ _ _ h => h) (Or.inr ⟨by rfl, rfl⟩) hS ?_
                (try simp only [List.getElem_toArray]); (try simp only [List.getElem_cons_succ]); (try simp only [List.getElem_cons_zero]); (try simp only [Act.put]); (try simp only [List.setIfInBounds_toArray]); (try simp only [List.set_cons_succ]); (try simp only [List.set_cons_zero])
                refine wpAnyH_take (i := 10) (v := undef) rfl (by kernel_rfl) (by kernel_rfl) (by kernel_rfl) (fun _ _ _ h => h) (Or.inr ⟨by rfl, rfl⟩) hS ?_
                (try simp only [List.getElem_toArray]); (try simp only [List.getElem_cons_succ]); (try simp only [List.getElem_cons_zero]); (try simp only [Act.put]); (try simp only [List.setIfInBounds_toArray]); (try simp only [List.set_cons_succ]); (try simp only [List.set_cons_zero])
                refine wpAnyH_take (i := 11) (v := undef) rfl (by kernel_rfl) (by kernel_rfl) (by kernel_rfl) (fun _ _ _ h => h) (Or.inr ⟨by rfl, rfl⟩) hS ?_
                (try simp only [List.getElem_toArray]); (try simp only [List.getElem_cons_succ]); (try simp only [List.getElem_cons_zero]); (try simp only [Act.put]); (try simp only [List.setIfInBounds_toArray]); (try simp only [List.set_cons_succ]); (try simp only [List.set_cons_zero])
                refine wpAnyH_take (i := 12) (v := ?vn244) rfl (by kernel_rfl) (by kernel_rfl) (by kernel_rfl) (fun _ _ _ h => h) (Or.inl ⟨by rfl, ?hn244⟩) hS ?rn244
                case hn244 => intro w' hSw; go_simp; (try with_reducible rfl)
                (try simp only [List.getElem_toArray]); (try simp only [List.getElem_cons_succ]); (try simp only [List.getElem_cons_zero]); (try simp only [Act.put]); (try simp only [List.setIfInBounds_toArray]); (try simp only [List.set_cons_succ]); (try simp only [List.set_cons_zero])
                refine wpAnyH_done (by kernel_rfl) ?_ _
                clear hS
                go_wp2
                go_roundw
                case rel => exact ⟨k + 1, by omega, by go_num, X3, X6, X12, rM, rV, B⟩
                case measure => simp [intOf]; omega
              · have ekw : ((k : Int) != who) = true := by simpa using hkw
                have ek := hkv hkw
                rw [ek] at c9
                have ev : (VV.xValue != VV.xValue) = false := by simp
                clear hkw hkv ek
                have X12a := X12.at.1
                have X12l := X12.lt
                go_wp2_with fail
                clear X12a X12l
                refine wp_region_held (S := fun V => (∀ o, V.cell? ⟨b6, o, none⟩ = (#[.int .i64 R.xCode, .slice (some ⟨gv, ov, none⟩) R.xValues.length cv] : Array Value)[o]?) ∧ (∀ o, V.cell? ⟨b12, o, none⟩ = (#[.int .i64 VV.xCode, .int .i64 VV.xValue] : Array Value)[o]?) ∧ V.cell? ⟨gv, ov + k, none⟩ = some (.int .i64 VV.xValue)) (by kernel_rfl) ?_
                try (change wpAnyH _ _ _ _ _ _ _ _ (World.drew _))
                replace X3 := X3.drew
                replace X6 := X6.drew
                replace X12 := X12.drew
                replace rM := rM.below (Below.refl _ _).drew
                replace rV := rV.below (Below.refl _ _).drew
                replace B := B.drew
                have hS : (∀ o, wr.drew.cell? ⟨b6, o, none⟩ = (#[.int .i64 R.xCode, .slice (some ⟨gv, ov, none⟩) R.xValues.length cv] : Array Value)[o]?) ∧ (∀ o, wr.drew.cell? ⟨b12, o, none⟩ = (#[.int .i64 VV.xCode, .int .i64 VV.xValue] : Array Value)[o]?) ∧ wr.drew.cell? ⟨gv, ov + k, none⟩ = some (.int .i64 VV.xValue) := ⟨X6.at.1, X12.at.1, c9⟩
                refine wpAnyH_take (i := 0) (v := ?vn245) rfl (by kernel_rfl) (by kernel_rfl) (by kernel_rfl) (fun _ _ _ h => h) (Or.inl ⟨by rfl, ?hn245⟩) hS ?rn245
                case hn245 => intro w' hSw; go_simp; (try with_reducible rfl)
                (try simp only [List.getElem_toArray]); (try simp only [List.getElem_cons_succ]); (try simp only [List.getElem_cons_zero]); (try simp only [Act.put]); (try simp only [List.setIfInBounds_toArray]); (try simp only [List.set_cons_succ]); (try simp only [List.set_cons_zero])
                refine wpAnyH_take (i := 1) (v := ?vn246) rfl (by kernel_rfl) (by kernel_rfl) (by kernel_rfl) (fun _ _ _ h => h) (Or.inl ⟨by rfl, ?hn246⟩) hS ?rn246
                case hn246 => intro w' hSw; go_simp; (try with_reducible rfl)
                (try simp only [List.getElem_toArray]); (try simp only [List.getElem_cons_succ]); (try simp only [List.getElem_cons_zero]); (try simp only [Act.put]); (try simp only [List.setIfInBounds_toArray]); (try simp only [List.set_cons_succ]); (try simp only [List.set_cons_zero])
                refine wpAnyH_take (i := 2) (v := ?vn247) rfl (by kernel_rfl) (by kernel_rfl) (by kernel_rfl) (fun _ _ _ h => h) (Or.inl ⟨by rfl, ?hn247⟩) hS ?rn247
                case hn247 => intro w' hSw; go_simp; (try with_reducible rfl)
                (try simp only [List.getElem_toArray]); (try simp only [List.getElem_cons_succ]); (try simp only [List.getElem_cons_zero]); (try simp only [Act.put]); (try simp only [List.setIfInBounds_toArray]); (try simp only [List.set_cons_succ]); (try simp only [List.set_cons_zero])
                refine wpAnyH_take (i := 3) (v := ?vn248) rfl (by kernel_rfl) (by kernel_rfl) (by kernel_rfl) (fun _ _ _ h => h) (Or.inl ⟨by rfl, ?hn248⟩) hS ?rn248
                case hn248 => intro w' hSw; go_simp; (try with_reducible rfl)
                (try simp only [List.getElem_toArray]); (try simp only [List.getElem_cons_succ]); (try simp only [List.getElem_cons_zero]); (try simp only [Act.put]); (try simp only [List.setIfInBounds_toArray]); (try simp only [List.set_cons_succ]); (try simp only [List.set_cons_zero])
                refine wpAnyH_take (i := 4) (v := ?vn249) rfl (by kernel_rfl) (by kernel_rfl) (by kernel_rfl) (fun _ _ _ h => h) (Or.inl ⟨by rfl, ?hn249⟩) hS ?rn249
                case hn249 => intro w' hSw; go_simp; (try with_reducible rfl)
                (try simp only [List.getElem_toArray]); (try simp only [List.getElem_cons_succ]); (try simp only [List.getElem_cons_zero]); (try simp only [Act.put]); (try simp only [List.setIfInBounds_toArray]); (try simp only [List.set_cons_succ]); (try simp only [List.set_cons_zero])
                refine wpAnyH_take (i := 5) (v := ?vn250) rfl (by kernel_rfl) (by kernel_rfl) (by kernel_rfl) (fun _ _ _ h => h) (Or.inl ⟨by rfl, ?hn250⟩) hS ?rn250
                case hn250 => intro w' hSw; go_simp; (try with_reducible rfl)
                (try simp only [List.getElem_toArray]); (try simp only [List.getElem_cons_succ]); (try simp only [List.getElem_cons_zero]); (try simp only [Act.put]); (try simp only [List.setIfInBounds_toArray]); (try simp only [List.set_cons_succ]); (try simp only [List.set_cons_zero])
                refine wpAnyH_take (i := 6) (v := ?vn251) rfl (by kernel_rfl) (by kernel_rfl) (by kernel_rfl) (fun _ _ _ h => h) (Or.inl ⟨by rfl, ?hn251⟩) hS ?rn251
                case hn251 => intro w' hSw; go_simp; (try with_reducible rfl)
                (try simp only [List.getElem_toArray]); (try simp only [List.getElem_cons_succ]); (try simp only [List.getElem_cons_zero]); (try simp only [Act.put]); (try simp only [List.setIfInBounds_toArray]); (try simp only [List.set_cons_succ]); (try simp only [List.set_cons_zero])
                refine wpAnyH_take (i := 7) (v := ?vn252) rfl (by kernel_rfl) (by kernel_rfl) (by kernel_rfl) (fun _ _ _ h => h) (Or.inl ⟨by rfl, ?hn252⟩) hS ?rn252
                case hn252 => intro w' hSw; go_simp; (try with_reducible rfl)
                (try simp only [List.getElem_toArray]); (try simp only [List.getElem_cons_succ]); (try simp only [List.getElem_cons_zero]); (try simp only [Act.put]); (try simp only [List.setIfInBounds_toArray]); (try simp only [List.set_cons_succ]); (try simp only [List.set_cons_zero])
                refine wpAnyH_take (i := 8) (v := ?vn253) rfl (by kernel_rfl) (by kernel_rfl) (by kernel_rfl) (fun _ _ _ h => h) (Or.inl ⟨by rfl, ?hn253⟩) hS ?rn253
                case hn253 => intro w' hSw; go_simp; (try with_reducible rfl)
                (try simp only [List.getElem_toArray]); (try simp only [List.getElem_cons_succ]); (try simp only [List.getElem_cons_zero]); (try simp only [Act.put]); (try simp only [List.setIfInBounds_toArray]); (try simp only [List.set_cons_succ]); (try simp only [List.set_cons_zero])
                refine wpAnyH_take (i := 9) (v := ?vn254) rfl (by kernel_rfl) (by kernel_rfl) (by kernel_rfl) (fun _ _ _ h => h) (Or.inl ⟨by rfl, ?hn254⟩) hS ?rn254
                case hn254 => intro w' hSw; go_simp; (try with_reducible rfl)
                (try simp only [List.getElem_toArray]); (try simp only [List.getElem_cons_succ]); (try simp only [List.getElem_cons_zero]); (try simp only [Act.put]); (try simp only [List.setIfInBounds_toArray]); (try simp only [List.set_cons_succ]); (try simp only [List.set_cons_zero])
                refine wpAnyH_take (i := 10) (v := ?vn255) rfl (by kernel_rfl) (by kernel_rfl) (by kernel_rfl) (fun _ _ _ h => h) (Or.inl ⟨by rfl, ?hn255⟩) hS ?rn255
                case hn255 => intro w' hSw; go_simp; (try with_reducible rfl)
                (try simp only [List.getElem_toArray]); (try simp only [List.getElem_cons_succ]); (try simp only [List.getElem_cons_zero]); (try simp only [Act.put]); (try simp only [List.setIfInBounds_toArray]); (try simp only [List.set_cons_succ]); (try simp only [List.set_cons_zero])
                refine wpAnyH_take (i := 11) (v := ?vn256) rfl (by kernel_rfl) (by kernel_rfl) (by kernel_rfl) (fun _ _ _ h => h) (Or.inl ⟨by rfl, ?hn256⟩) hS ?rn256
                case hn256 => intro w' hSw; go_simp; (try with_reducible rfl)
                (try simp only [List.getElem_toArray]); (try simp only [List.getElem_cons_succ]); (try simp only [List.getElem_cons_zero]); (try simp only [Act.put]); (try simp only [List.setIfInBounds_toArray]); (try simp only [List.set_cons_succ]); (try simp only [List.set_cons_zero])
                refine wpAnyH_take (i := 12) (v := ?vn257) rfl (by kernel_rfl) (by kernel_rfl) (by kernel_rfl) (fun _ _ _ h => h) (Or.inl ⟨by rfl, ?hn257⟩) hS ?rn257
                case hn257 => intro w' hSw; go_simp; (try with_reducible rfl)
                (try simp only [List.getElem_toArray]); (try simp only [List.getElem_cons_succ]); (try simp only [List.getElem_cons_zero]); (try simp only [Act.put]); (try simp only [List.setIfInBounds_toArray]); (try simp only [List.set_cons_succ]); (try simp only [List.set_cons_zero])
                refine wpAnyH_done (by kernel_rfl) ?_ _
                clear hS
                go_wp2
                go_roundw
                case rel => exact ⟨k + 1, by omega, by go_num, X3, X6, X12, rM, rV, B⟩
                case measure => simp [intOf]; omega
            · have ecv : (VV.xCode == 0) = false := by simpa using hcv
              clear hcv
              have X12a := X12.at.1
              have X12l := X12.lt
              go_wp2_with fail
              clear X12a X12l X12
              refine wp_region_held (S := fun V => (∀ o, V.cell? ⟨b3, o, none⟩ = (#[.int .i64 x.xQ, .slice p x.xViews.length c] : Array Value)[o]?) ∧ (∀ o, V.cell? ⟨b6, o, none⟩ = (#[.int .i64 R.xCode, .slice (some ⟨gv, ov, none⟩) R.xValues.length cv] : Array Value)[o]?)) (by kernel_rfl) ?_
              try (change wpAnyH _ _ _ _ _ _ _ _ (World.drew _))
              replace X3 := X3.drew
              replace X6 := X6.drew
              replace rM := rM.below (Below.refl _ _).drew
              replace rV := rV.below (Below.refl _ _).drew
              replace B := B.drew
              have hS : (∀ o, wr.drew.cell? ⟨b3, o, none⟩ = (#[.int .i64 x.xQ, .slice p x.xViews.length c] : Array Value)[o]?) ∧ (∀ o, wr.drew.cell? ⟨b6, o, none⟩ = (#[.int .i64 R.xCode, .slice (some ⟨gv, ov, none⟩) R.xValues.length cv] : Array Value)[o]?) := ⟨X3.at.1, X6.at.1⟩
              refine wpAnyH_take (i := 0) (v := ?vn258) rfl (by kernel_rfl) (by kernel_rfl) (by kernel_rfl) (fun _ _ _ h => h) (Or.inl ⟨by rfl, ?hn258⟩) hS ?rn258
              case hn258 => intro w' hSw; go_simp; (try with_reducible rfl)
              (try simp only [List.getElem_toArray]); (try simp only [List.getElem_cons_succ]); (try simp only [List.getElem_cons_zero]); (try simp only [Act.put]); (try simp only [List.setIfInBounds_toArray]); (try simp only [List.set_cons_succ]); (try simp only [List.set_cons_zero])
              refine wpAnyH_take (i := 1) (v := ?vn259) rfl (by kernel_rfl) (by kernel_rfl) (by kernel_rfl) (fun _ _ _ h => h) (Or.inl ⟨by rfl, ?hn259⟩) hS ?rn259
              case hn259 => intro w' hSw; go_simp; (try with_reducible rfl)
              (try simp only [List.getElem_toArray]); (try simp only [List.getElem_cons_succ]); (try simp only [List.getElem_cons_zero]); (try simp only [Act.put]); (try simp only [List.setIfInBounds_toArray]); (try simp only [List.set_cons_succ]); (try simp only [List.set_cons_zero])
              refine wpAnyH_take (i := 2) (v := ?vn260) rfl (by kernel_rfl) (by kernel_rfl) (by kernel_rfl) (fun _ _ _ h => h) (Or.inl ⟨by rfl, ?hn260⟩) hS ?rn260
              case hn260 => intro w' hSw; go_simp; (try with_reducible rfl)
              (try simp only [List.getElem_toArray]); (try simp only [List.getElem_cons_succ]); (try simp only [List.getElem_cons_zero]); (try simp only [Act.put]); (try simp only [List.setIfInBounds_toArray]); (try simp only [List.set_cons_succ]); (try simp only [List.set_cons_zero])
              refine wpAnyH_take (i := 3) (v := ?vn261) rfl (by kernel_rfl) (by kernel_rfl) (by kernel_rfl) (fun _ _ _ h => h) (Or.inl ⟨by rfl, ?hn261⟩) hS ?rn261
              case hn261 => intro w' hSw; go_simp; (try with_reducible rfl)
              (try simp only [List.getElem_toArray]); (try simp only [List.getElem_cons_succ]); (try simp only [List.getElem_cons_zero]); (try simp only [Act.put]); (try simp only [List.setIfInBounds_toArray]); (try simp only [List.set_cons_succ]); (try simp only [List.set_cons_zero])
              refine wpAnyH_take (i := 4) (v := ?vn262) rfl (by kernel_rfl) (by kernel_rfl) (by kernel_rfl) (fun _ _ _ h => h) (Or.inl ⟨by rfl, ?hn262⟩) hS ?rn262
              case hn262 => intro w' hSw; go_simp; (try with_reducible rfl)
              (try simp only [List.getElem_toArray]); (try simp only [List.getElem_cons_succ]); (try simp only [List.getElem_cons_zero]); (try simp only [Act.put]); (try simp only [List.setIfInBounds_toArray]); (try simp only [List.set_cons_succ]); (try simp only [List.set_cons_zero])
              refine wpAnyH_ready (rs := [5]) (by kernel_rfl) (by simp) ?_
              refine AllReadyH.cons (o := _) rfl (fun K hK => ?_) AllReadyH.nil
              rw [if_pos (by rfl)]
              go_simp
              go_at_call 22
              clear hS
              refine (KOS _ rM).mono ?_
              rintro e w10 ⟨u9, bs9, rfl, ON9, -, k10⟩
              obtain ⟨p9, c9, rfl, hI9⟩ := ON9
              have rZ : RdI w10 (.slice p9 R.xValues.length c9) R.xValues := Ints.reads hI9
              clear hI9
              replace X3 := X3.keep k10
              replace X6 := X6.keep k10
              replace rM := rM.below k10
              replace rV := rV.below k10
              replace B := B.trans (k10.mono B.size)
              clear k10
              skip
              have hS : (∀ o, w10.cell? ⟨b3, o, none⟩ = (#[.int .i64 x.xQ, .slice p x.xViews.length c] : Array Value)[o]?) ∧ (∀ o, w10.cell? ⟨b6, o, none⟩ = (#[.int .i64 R.xCode, .slice (some ⟨gv, ov, none⟩) R.xValues.length cv] : Array Value)[o]?) := ⟨X3.at.1, X6.at.1⟩
              refine hK.out _ _ hS (fun hS => ?_)
              clear hK K
              (try simp only [List.getElem_toArray]); (try simp only [List.getElem_cons_succ]); (try simp only [List.getElem_cons_zero]); (try simp only [Act.put]); (try simp only [List.setIfInBounds_toArray]); (try simp only [List.set_cons_succ]); (try simp only [List.set_cons_zero])
              refine wpAnyH_take (i := 6) (v := ?vn263) rfl (by kernel_rfl) (by kernel_rfl) (by kernel_rfl) (fun _ _ _ h => h) (Or.inl ⟨by rfl, ?hn263⟩) hS ?rn263
              case hn263 => intro w' hSw; go_simp; (try with_reducible rfl)
              (try simp only [List.getElem_toArray]); (try simp only [List.getElem_cons_succ]); (try simp only [List.getElem_cons_zero]); (try simp only [Act.put]); (try simp only [List.setIfInBounds_toArray]); (try simp only [List.set_cons_succ]); (try simp only [List.set_cons_zero])
              refine wpAnyH_ready (rs := [7]) (by kernel_rfl) (by simp) ?_
              refine AllReadyH.cons (o := _) rfl (fun K hK => ?_) AllReadyH.nil
              rw [if_pos (by rfl)]
              go_simp
              go_at_call 23
              clear hS
              refine (lwNums_same _ _ R.xValues _ rV rZ).mono ?_
              rintro e w11 ⟨rfl, k11⟩
              replace X3 := X3.keep k11
              replace X6 := X6.keep k11
              replace rM := rM.below k11
              replace rV := rV.below k11
              replace rZ := rZ.below k11
              replace B := B.trans (k11.mono B.size)
              clear k11
              have hS : (∀ o, w11.cell? ⟨b3, o, none⟩ = (#[.int .i64 x.xQ, .slice p x.xViews.length c] : Array Value)[o]?) ∧ (∀ o, w11.cell? ⟨b6, o, none⟩ = (#[.int .i64 R.xCode, .slice (some ⟨gv, ov, none⟩) R.xValues.length cv] : Array Value)[o]?) := ⟨X3.at.1, X6.at.1⟩
              refine hK.out _ _ hS (fun hS => ?_)
              clear hK K
              (try simp only [List.getElem_toArray]); (try simp only [List.getElem_cons_succ]); (try simp only [List.getElem_cons_zero]); (try simp only [Act.put]); (try simp only [List.setIfInBounds_toArray]); (try simp only [List.set_cons_succ]); (try simp only [List.set_cons_zero])
              refine wpAnyH_take (i := 8) (v := ?vn264) rfl (by kernel_rfl) (by kernel_rfl) (by kernel_rfl) (fun _ _ _ h => h) (Or.inl ⟨by rfl, ?hn264⟩) hS ?rn264
              case hn264 => intro w' hSw; go_simp; (try with_reducible rfl)
              (try simp only [List.getElem_toArray]); (try simp only [List.getElem_cons_succ]); (try simp only [List.getElem_cons_zero]); (try simp only [Act.put]); (try simp only [List.setIfInBounds_toArray]); (try simp only [List.set_cons_succ]); (try simp only [List.set_cons_zero])
              refine wpAnyH_take (i := 9) (v := ?vn265) rfl (by kernel_rfl) (by kernel_rfl) (by kernel_rfl) (fun _ _ _ h => h) (Or.inl ⟨by rfl, ?hn265⟩) hS ?rn265
              case hn265 => intro w' hSw; go_simp; (try with_reducible rfl)
              (try simp only [List.getElem_toArray]); (try simp only [List.getElem_cons_succ]); (try simp only [List.getElem_cons_zero]); (try simp only [Act.put]); (try simp only [List.setIfInBounds_toArray]); (try simp only [List.set_cons_succ]); (try simp only [List.set_cons_zero])
              refine wpAnyH_ready (rs := [10]) (by kernel_rfl) (by simp) ?_
              refine AllReadyH.cons (o := _) rfl (fun K hK => ?_) AllReadyH.nil
              rw [if_pos (by rfl)]
              go_simp
              go_at_call 24
              clear hS
              refine (KF _ rM).mono ?_
              rintro e w12 ⟨rfl, k12⟩
              replace X3 := X3.keep k12
              replace X6 := X6.keep k12
              replace rM := rM.below k12
              replace rV := rV.below k12
              replace rZ := rZ.below k12
              replace B := B.trans (k12.mono B.size)
              clear k12
              have hS : (∀ o, w12.cell? ⟨b3, o, none⟩ = (#[.int .i64 x.xQ, .slice p x.xViews.length c] : Array Value)[o]?) ∧ (∀ o, w12.cell? ⟨b6, o, none⟩ = (#[.int .i64 R.xCode, .slice (some ⟨gv, ov, none⟩) R.xValues.length cv] : Array Value)[o]?) := ⟨X3.at.1, X6.at.1⟩
              refine hK.out _ _ hS (fun hS => ?_)
              clear hK K
              (try simp only [List.getElem_toArray]); (try simp only [List.getElem_cons_succ]); (try simp only [List.getElem_cons_zero]); (try simp only [Act.put]); (try simp only [List.setIfInBounds_toArray]); (try simp only [List.set_cons_succ]); (try simp only [List.set_cons_zero])
              refine wpAnyH_take (i := 11) (v := ?vn266) rfl (by kernel_rfl) (by kernel_rfl) (by kernel_rfl) (fun _ _ _ h => h) (Or.inl ⟨by rfl, ?hn266⟩) hS ?rn266
              case hn266 => intro w' hSw; go_simp; (try with_reducible rfl)
              (try simp only [List.getElem_toArray]); (try simp only [List.getElem_cons_succ]); (try simp only [List.getElem_cons_zero]); (try simp only [Act.put]); (try simp only [List.setIfInBounds_toArray]); (try simp only [List.set_cons_succ]); (try simp only [List.set_cons_zero])
              refine wpAnyH_take (i := 12) (v := ?vn267) rfl (by kernel_rfl) (by kernel_rfl) (by kernel_rfl) (fun _ _ _ h => h) (Or.inl ⟨by rfl, ?hn267⟩) hS ?rn267
              case hn267 => intro w' hSw; go_simp; (try with_reducible rfl)
              (try simp only [List.getElem_toArray]); (try simp only [List.getElem_cons_succ]); (try simp only [List.getElem_cons_zero]); (try simp only [Act.put]); (try simp only [List.setIfInBounds_toArray]); (try simp only [List.set_cons_succ]); (try simp only [List.set_cons_zero])
              refine wpAnyH_take (i := 13) (v := ?vn268) rfl (by kernel_rfl) (by kernel_rfl) (by kernel_rfl) (fun _ _ _ h => h) (Or.inl ⟨by rfl, ?hn268⟩) hS ?rn268
              case hn268 => intro w' hSw; go_simp; (try with_reducible rfl)
              (try simp only [List.getElem_toArray]); (try simp only [List.getElem_cons_succ]); (try simp only [List.getElem_cons_zero]); (try simp only [Act.put]); (try simp only [List.setIfInBounds_toArray]); (try simp only [List.set_cons_succ]); (try simp only [List.set_cons_zero])
              refine wpAnyH_done (by kernel_rfl) ?_ _
              clear hS
              go_wp2
              go_ret
              exact ⟨rfl, B⟩
          · have hi : decide ((k : Int) < 4) = false := by simp; omega
            have X12a := X12.at.1
            have X12l := X12.lt
            go_wp2_with fail
            clear X12a X12l X12
            refine wp_region_held (S := fun V => (∀ o, V.cell? ⟨b3, o, none⟩ = (#[.int .i64 x.xQ, .slice p x.xViews.length c] : Array Value)[o]?) ∧ (∀ o, V.cell? ⟨b6, o, none⟩ = (#[.int .i64 R.xCode, .slice (some ⟨gv, ov, none⟩) R.xValues.length cv] : Array Value)[o]?)) (by kernel_rfl) ?_
            try (change wpAnyH _ _ _ _ _ _ _ _ (World.drew _))
            replace X3 := X3.drew
            replace X6 := X6.drew
            replace rM := rM.below (Below.refl _ _).drew
            replace rV := rV.below (Below.refl _ _).drew
            replace B := B.drew
            have hS : (∀ o, wr.drew.cell? ⟨b3, o, none⟩ = (#[.int .i64 x.xQ, .slice p x.xViews.length c] : Array Value)[o]?) ∧ (∀ o, wr.drew.cell? ⟨b6, o, none⟩ = (#[.int .i64 R.xCode, .slice (some ⟨gv, ov, none⟩) R.xValues.length cv] : Array Value)[o]?) := ⟨X3.at.1, X6.at.1⟩
            refine wpAnyH_take (i := 0) (v := ?vn269) rfl (by kernel_rfl) (by kernel_rfl) (by kernel_rfl) (fun _ _ _ h => h) (Or.inl ⟨by rfl, ?hn269⟩) hS ?rn269
            case hn269 => intro w' hSw; go_simp; (try with_reducible rfl)
            (try simp only [List.getElem_toArray]); (try simp only [List.getElem_cons_succ]); (try simp only [List.getElem_cons_zero]); (try simp only [Act.put]); (try simp only [List.setIfInBounds_toArray]); (try simp only [List.set_cons_succ]); (try simp only [List.set_cons_zero])
            refine wpAnyH_take (i := 1) (v := ?vn270) rfl (by kernel_rfl) (by kernel_rfl) (by kernel_rfl) (fun _ _ _ h => h) (Or.inl ⟨by rfl, ?hn270⟩) hS ?rn270
            case hn270 => intro w' hSw; go_simp; (try with_reducible rfl)
            (try simp only [List.getElem_toArray]); (try simp only [List.getElem_cons_succ]); (try simp only [List.getElem_cons_zero]); (try simp only [Act.put]); (try simp only [List.setIfInBounds_toArray]); (try simp only [List.set_cons_succ]); (try simp only [List.set_cons_zero])
            refine wpAnyH_take (i := 2) (v := ?vn271) rfl (by kernel_rfl) (by kernel_rfl) (by kernel_rfl) (fun _ _ _ h => h) (Or.inl ⟨by rfl, ?hn271⟩) hS ?rn271
            case hn271 => intro w' hSw; go_simp; (try with_reducible rfl)
            (try simp only [List.getElem_toArray]); (try simp only [List.getElem_cons_succ]); (try simp only [List.getElem_cons_zero]); (try simp only [Act.put]); (try simp only [List.setIfInBounds_toArray]); (try simp only [List.set_cons_succ]); (try simp only [List.set_cons_zero])
            refine wpAnyH_take (i := 3) (v := ?vn272) rfl (by kernel_rfl) (by kernel_rfl) (by kernel_rfl) (fun _ _ _ h => h) (Or.inl ⟨by rfl, ?hn272⟩) hS ?rn272
            case hn272 => intro w' hSw; go_simp; (try with_reducible rfl)
            (try simp only [List.getElem_toArray]); (try simp only [List.getElem_cons_succ]); (try simp only [List.getElem_cons_zero]); (try simp only [Act.put]); (try simp only [List.setIfInBounds_toArray]); (try simp only [List.set_cons_succ]); (try simp only [List.set_cons_zero])
            refine wpAnyH_take (i := 4) (v := ?vn273) rfl (by kernel_rfl) (by kernel_rfl) (by kernel_rfl) (fun _ _ _ h => h) (Or.inl ⟨by rfl, ?hn273⟩) hS ?rn273
            case hn273 => intro w' hSw; go_simp; (try with_reducible rfl)
            (try simp only [List.getElem_toArray]); (try simp only [List.getElem_cons_succ]); (try simp only [List.getElem_cons_zero]); (try simp only [Act.put]); (try simp only [List.setIfInBounds_toArray]); (try simp only [List.set_cons_succ]); (try simp only [List.set_cons_zero])
            refine wpAnyH_ready (rs := [5]) (by kernel_rfl) (by simp) ?_
            refine AllReadyH.cons (o := _) rfl (fun K hK => ?_) AllReadyH.nil
            rw [if_pos (by rfl)]
            go_simp
            go_at_call 22
            clear hS
            refine (KOS _ rM).mono ?_
            rintro e w13 ⟨u9, bs9, rfl, ON9, -, k13⟩
            obtain ⟨p9, c9, rfl, hI9⟩ := ON9
            have rZ : RdI w13 (.slice p9 R.xValues.length c9) R.xValues := Ints.reads hI9
            clear hI9
            replace X3 := X3.keep k13
            replace X6 := X6.keep k13
            replace rM := rM.below k13
            replace rV := rV.below k13
            replace B := B.trans (k13.mono B.size)
            clear k13
            skip
            have hS : (∀ o, w13.cell? ⟨b3, o, none⟩ = (#[.int .i64 x.xQ, .slice p x.xViews.length c] : Array Value)[o]?) ∧ (∀ o, w13.cell? ⟨b6, o, none⟩ = (#[.int .i64 R.xCode, .slice (some ⟨gv, ov, none⟩) R.xValues.length cv] : Array Value)[o]?) := ⟨X3.at.1, X6.at.1⟩
            refine hK.out _ _ hS (fun hS => ?_)
            clear hK K
            (try simp only [List.getElem_toArray]); (try simp only [List.getElem_cons_succ]); (try simp only [List.getElem_cons_zero]); (try simp only [Act.put]); (try simp only [List.setIfInBounds_toArray]); (try simp only [List.set_cons_succ]); (try simp only [List.set_cons_zero])
            refine wpAnyH_take (i := 6) (v := ?vn274) rfl (by kernel_rfl) (by kernel_rfl) (by kernel_rfl) (fun _ _ _ h => h) (Or.inl ⟨by rfl, ?hn274⟩) hS ?rn274
            case hn274 => intro w' hSw; go_simp; (try with_reducible rfl)
            (try simp only [List.getElem_toArray]); (try simp only [List.getElem_cons_succ]); (try simp only [List.getElem_cons_zero]); (try simp only [Act.put]); (try simp only [List.setIfInBounds_toArray]); (try simp only [List.set_cons_succ]); (try simp only [List.set_cons_zero])
            refine wpAnyH_ready (rs := [7]) (by kernel_rfl) (by simp) ?_
            refine AllReadyH.cons (o := _) rfl (fun K hK => ?_) AllReadyH.nil
            rw [if_pos (by rfl)]
            go_simp
            go_at_call 23
            clear hS
            refine (lwNums_same _ _ R.xValues _ rV rZ).mono ?_
            rintro e w14 ⟨rfl, k14⟩
            replace X3 := X3.keep k14
            replace X6 := X6.keep k14
            replace rM := rM.below k14
            replace rV := rV.below k14
            replace rZ := rZ.below k14
            replace B := B.trans (k14.mono B.size)
            clear k14
            have hS : (∀ o, w14.cell? ⟨b3, o, none⟩ = (#[.int .i64 x.xQ, .slice p x.xViews.length c] : Array Value)[o]?) ∧ (∀ o, w14.cell? ⟨b6, o, none⟩ = (#[.int .i64 R.xCode, .slice (some ⟨gv, ov, none⟩) R.xValues.length cv] : Array Value)[o]?) := ⟨X3.at.1, X6.at.1⟩
            refine hK.out _ _ hS (fun hS => ?_)
            clear hK K
            (try simp only [List.getElem_toArray]); (try simp only [List.getElem_cons_succ]); (try simp only [List.getElem_cons_zero]); (try simp only [Act.put]); (try simp only [List.setIfInBounds_toArray]); (try simp only [List.set_cons_succ]); (try simp only [List.set_cons_zero])
            refine wpAnyH_take (i := 8) (v := ?vn275) rfl (by kernel_rfl) (by kernel_rfl) (by kernel_rfl) (fun _ _ _ h => h) (Or.inl ⟨by rfl, ?hn275⟩) hS ?rn275
            case hn275 => intro w' hSw; go_simp; (try with_reducible rfl)
            (try simp only [List.getElem_toArray]); (try simp only [List.getElem_cons_succ]); (try simp only [List.getElem_cons_zero]); (try simp only [Act.put]); (try simp only [List.setIfInBounds_toArray]); (try simp only [List.set_cons_succ]); (try simp only [List.set_cons_zero])
            refine wpAnyH_take (i := 9) (v := ?vn276) rfl (by kernel_rfl) (by kernel_rfl) (by kernel_rfl) (fun _ _ _ h => h) (Or.inl ⟨by rfl, ?hn276⟩) hS ?rn276
            case hn276 => intro w' hSw; go_simp; (try with_reducible rfl)
            (try simp only [List.getElem_toArray]); (try simp only [List.getElem_cons_succ]); (try simp only [List.getElem_cons_zero]); (try simp only [Act.put]); (try simp only [List.setIfInBounds_toArray]); (try simp only [List.set_cons_succ]); (try simp only [List.set_cons_zero])
            refine wpAnyH_ready (rs := [10]) (by kernel_rfl) (by simp) ?_
            refine AllReadyH.cons (o := _) rfl (fun K hK => ?_) AllReadyH.nil
            rw [if_pos (by rfl)]
            go_simp
            go_at_call 24
            clear hS
            refine (KF _ rM).mono ?_
            rintro e w15 ⟨rfl, k15⟩
            replace X3 := X3.keep k15
            replace X6 := X6.keep k15
            replace rM := rM.below k15
            replace rV := rV.below k15
            replace rZ := rZ.below k15
            replace B := B.trans (k15.mono B.size)
            clear k15
            have hS : (∀ o, w15.cell? ⟨b3, o, none⟩ = (#[.int .i64 x.xQ, .slice p x.xViews.length c] : Array Value)[o]?) ∧ (∀ o, w15.cell? ⟨b6, o, none⟩ = (#[.int .i64 R.xCode, .slice (some ⟨gv, ov, none⟩) R.xValues.length cv] : Array Value)[o]?) := ⟨X3.at.1, X6.at.1⟩
            refine hK.out _ _ hS (fun hS => ?_)
            clear hK K
            (try simp only [List.getElem_toArray]); (try simp only [List.getElem_cons_succ]); (try simp only [List.getElem_cons_zero]); (try simp only [Act.put]); (try simp only [List.setIfInBounds_toArray]); (try simp only [List.set_cons_succ]); (try simp only [List.set_cons_zero])
            refine wpAnyH_take (i := 11) (v := ?vn277) rfl (by kernel_rfl) (by kernel_rfl) (by kernel_rfl) (fun _ _ _ h => h) (Or.inl ⟨by rfl, ?hn277⟩) hS ?rn277
            case hn277 => intro w' hSw; go_simp; (try with_reducible rfl)
            (try simp only [List.getElem_toArray]); (try simp only [List.getElem_cons_succ]); (try simp only [List.getElem_cons_zero]); (try simp only [Act.put]); (try simp only [List.setIfInBounds_toArray]); (try simp only [List.set_cons_succ]); (try simp only [List.set_cons_zero])
            refine wpAnyH_take (i := 12) (v := ?vn278) rfl (by kernel_rfl) (by kernel_rfl) (by kernel_rfl) (fun _ _ _ h => h) (Or.inl ⟨by rfl, ?hn278⟩) hS ?rn278
            case hn278 => intro w' hSw; go_simp; (try with_reducible rfl)
            (try simp only [List.getElem_toArray]); (try simp only [List.getElem_cons_succ]); (try simp only [List.getElem_cons_zero]); (try simp only [Act.put]); (try simp only [List.setIfInBounds_toArray]); (try simp only [List.set_cons_succ]); (try simp only [List.set_cons_zero])
            refine wpAnyH_take (i := 13) (v := ?vn279) rfl (by kernel_rfl) (by kernel_rfl) (by kernel_rfl) (fun _ _ _ h => h) (Or.inl ⟨by rfl, ?hn279⟩) hS ?rn279
            case hn279 => intro w' hSw; go_simp; (try with_reducible rfl)
            (try simp only [List.getElem_toArray]); (try simp only [List.getElem_cons_succ]); (try simp only [List.getElem_cons_zero]); (try simp only [Act.put]); (try simp only [List.setIfInBounds_toArray]); (try simp only [List.set_cons_succ]); (try simp only [List.set_cons_zero])
            refine wpAnyH_done (by kernel_rfl) ?_ _
            clear hS
            go_wp2
            go_ret
            exact ⟨rfl, B⟩
    · as_aux_lemma =>
        have ef : (R.xCode != 0) = true := by simpa using hf
        have eq : (R.xCode == R.xCode) = true := by simp
        clear hf HO
        have X6a := X6.at.1
        have X6l := X6.lt
        go_wp2_with fail
        clear X6a X6l
        refine wp_region_held (S := fun V => (∀ o, V.cell? ⟨b3, o, none⟩ = (#[.int .i64 x.xQ, .slice p x.xViews.length c] : Array Value)[o]?) ∧ (∀ o, V.cell? ⟨b6, o, none⟩ = (#[.int .i64 R.xCode, .slice pv R.xValues.length cv] : Array Value)[o]?)) (by kernel_rfl) ?_
        try (change wpAnyH _ _ _ _ _ _ _ _ (World.drew _))
        replace X3 := X3.drew
        replace X6 := X6.drew
        replace rM := rM.below (Below.refl _ _).drew
        replace rV := rV.below (Below.refl _ _).drew
        replace B := B.drew
        have hS : (∀ o, w8.drew.cell? ⟨b3, o, none⟩ = (#[.int .i64 x.xQ, .slice p x.xViews.length c] : Array Value)[o]?) ∧ (∀ o, w8.drew.cell? ⟨b6, o, none⟩ = (#[.int .i64 R.xCode, .slice pv R.xValues.length cv] : Array Value)[o]?) := ⟨X3.at.1, X6.at.1⟩
        refine wpAnyH_take (i := 0) (v := ?vn280) rfl (by kernel_rfl) (by kernel_rfl) (by kernel_rfl) (fun _ _ _ h => h) (Or.inl ⟨by rfl, ?hn280⟩) hS ?rn280
        case hn280 => intro w' hSw; go_simp; (try with_reducible rfl)
        (try simp only [List.getElem_toArray]); (try simp only [List.getElem_cons_succ]); (try simp only [List.getElem_cons_zero]); (try simp only [Act.put]); (try simp only [List.setIfInBounds_toArray]); (try simp only [List.set_cons_succ]); (try simp only [List.set_cons_zero])
        refine wpAnyH_take (i := 1) (v := ?vn281) rfl (by kernel_rfl) (by kernel_rfl) (by kernel_rfl) (fun _ _ _ h => h) (Or.inl ⟨by rfl, ?hn281⟩) hS ?rn281
        case hn281 => intro w' hSw; go_simp; (try with_reducible rfl)
        (try simp only [List.getElem_toArray]); (try simp only [List.getElem_cons_succ]); (try simp only [List.getElem_cons_zero]); (try simp only [Act.put]); (try simp only [List.setIfInBounds_toArray]); (try simp only [List.set_cons_succ]); (try simp only [List.set_cons_zero])
        refine wpAnyH_take (i := 2) (v := ?vn282) rfl (by kernel_rfl) (by kernel_rfl) (by kernel_rfl) (fun _ _ _ h => h) (Or.inl ⟨by rfl, ?hn282⟩) hS ?rn282
        case hn282 => intro w' hSw; go_simp; (try with_reducible rfl)
        (try simp only [List.getElem_toArray]); (try simp only [List.getElem_cons_succ]); (try simp only [List.getElem_cons_zero]); (try simp only [Act.put]); (try simp only [List.setIfInBounds_toArray]); (try simp only [List.set_cons_succ]); (try simp only [List.set_cons_zero])
        refine wpAnyH_take (i := 5) (v := ?vn283) rfl (by kernel_rfl) (by kernel_rfl) (by kernel_rfl) (fun _ _ _ h => h) (Or.inl ⟨by rfl, ?hn283⟩) hS ?rn283
        case hn283 => intro w' hSw; go_simp; (try with_reducible rfl)
        (try simp only [List.getElem_toArray]); (try simp only [List.getElem_cons_succ]); (try simp only [List.getElem_cons_zero]); (try simp only [Act.put]); (try simp only [List.setIfInBounds_toArray]); (try simp only [List.set_cons_succ]); (try simp only [List.set_cons_zero])
        refine wpAnyH_take (i := 6) (v := ?vn284) rfl (by kernel_rfl) (by kernel_rfl) (by kernel_rfl) (fun _ _ _ h => h) (Or.inl ⟨by rfl, ?hn284⟩) hS ?rn284
        case hn284 => intro w' hSw; go_simp; (try with_reducible rfl)
        (try simp only [List.getElem_toArray]); (try simp only [List.getElem_cons_succ]); (try simp only [List.getElem_cons_zero]); (try simp only [Act.put]); (try simp only [List.setIfInBounds_toArray]); (try simp only [List.set_cons_succ]); (try simp only [List.set_cons_zero])
        refine wpAnyH_ready (rs := [3]) (by kernel_rfl) (by simp) ?_
        refine AllReadyH.cons (o := _) rfl (fun K hK => ?_) AllReadyH.nil
        rw [if_pos (by rfl)]
        go_simp
        go_at_call 22
        clear hS
        refine (KOS _ rM).mono ?_
        rintro e w16 ⟨u9, bs9, rfl, ON9, -, k16⟩
        obtain ⟨p9, c9, rfl, -⟩ := ON9
        replace X3 := X3.keep k16
        replace X6 := X6.keep k16
        replace rM := rM.below k16
        replace rV := rV.below k16
        replace B := B.trans (k16.mono B.size)
        clear k16
        have hS : (∀ o, w16.cell? ⟨b3, o, none⟩ = (#[.int .i64 x.xQ, .slice p x.xViews.length c] : Array Value)[o]?) ∧ (∀ o, w16.cell? ⟨b6, o, none⟩ = (#[.int .i64 R.xCode, .slice pv R.xValues.length cv] : Array Value)[o]?) := ⟨X3.at.1, X6.at.1⟩
        refine hK.out _ _ hS (fun hS => ?_)
        clear hK K
        (try simp only [List.getElem_toArray]); (try simp only [List.getElem_cons_succ]); (try simp only [List.getElem_cons_zero]); (try simp only [Act.put]); (try simp only [List.setIfInBounds_toArray]); (try simp only [List.set_cons_succ]); (try simp only [List.set_cons_zero])
        refine wpAnyH_take (i := 4) (v := ?vn285) rfl (by kernel_rfl) (by kernel_rfl) (by kernel_rfl) (fun _ _ _ h => h) (Or.inl ⟨by rfl, ?hn285⟩) hS ?rn285
        case hn285 => intro w' hSw; go_simp; (try with_reducible rfl)
        (try simp only [List.getElem_toArray]); (try simp only [List.getElem_cons_succ]); (try simp only [List.getElem_cons_zero]); (try simp only [Act.put]); (try simp only [List.setIfInBounds_toArray]); (try simp only [List.set_cons_succ]); (try simp only [List.set_cons_zero])
        refine wpAnyH_take (i := 7) (v := ?vn286) rfl (by kernel_rfl) (by kernel_rfl) (by kernel_rfl) (fun _ _ _ h => h) (Or.inl ⟨by rfl, ?hn286⟩) hS ?rn286
        case hn286 => intro w' hSw; go_simp; (try with_reducible rfl)
        (try simp only [List.getElem_toArray]); (try simp only [List.getElem_cons_succ]); (try simp only [List.getElem_cons_zero]); (try simp only [Act.put]); (try simp only [List.setIfInBounds_toArray]); (try simp only [List.set_cons_succ]); (try simp only [List.set_cons_zero])
        refine wpAnyH_take (i := 8) (v := ?vn287) rfl (by kernel_rfl) (by kernel_rfl) (by kernel_rfl) (fun _ _ _ h => h) (Or.inl ⟨by rfl, ?hn287⟩) hS ?rn287
        case hn287 => intro w' hSw; go_simp; (try with_reducible rfl)
        (try simp only [List.getElem_toArray]); (try simp only [List.getElem_cons_succ]); (try simp only [List.getElem_cons_zero]); (try simp only [Act.put]); (try simp only [List.setIfInBounds_toArray]); (try simp only [List.set_cons_succ]); (try simp only [List.set_cons_zero])
        refine wpAnyH_done (by kernel_rfl) ?_ _
        clear hS
        go_wp2
        go_ret
        exact ⟨rfl, B⟩

/-! the row's step -/
set_option maxRecDepth 100000 in
theorem lifted (os : Os) (started : os.Started) (H : Type) (enc : TypeId × Value → H) :
    ReturnsInHanded {} Try.checked os 5 .any (Rows.fnOpensSpec.pre6 enc Try.prog Try.f5 Rows.fnOpensRow.domain false) (Rows.fnOpensSpec.post enc Try.prog Try.f5 false true false false) := by
  refine returnsInHanded_of_change (C := Try.checked) own started (by kernel_rfl) Try.func5
    (ChangeSpec.witness6 (enc := enc) (C := Try.checked) false ⟨#[], #[.slice none 0 0], []⟩ 8 (by kernel_rfl) (by kernel_rfl) (by kernel_rfl) (by kernel_rfl)) ?_
  intro W base args ds gs before hval0 hW hcnd _
  have hval : ∀ (j : Nat) t v, Try.f5.params[j]? = some t → args[j]? = some v → Value.okWide Try.prog W .any base t v := hval0
  have hW' := hW
  obtain ⟨p, q, hA0, hV, rfl, hfz, hnd⟩ := hW
  have hA : DataW.TrodAll enc Try.prog W 0 (fun _ => true) true Try.f5.params.toList args.toList ds p := hA0
  rw [Try.params5] at hA hval
  obtain ⟨v0, vs0, d0, ds0, p0, q0, hargs, rfl, rfl, h0, r0⟩ := trodAll_cons hA
  obtain ⟨rfl, rfl, rfl⟩ := trodAll_nil r0
  obtain rfl : args = #[v0] := by cases args; simp_all
  obtain ⟨rfl, rfl⟩ := trodVars_none hV
  obtain ⟨a0, len0, cap0, rfl⟩ := okWide_slice Try.underlying22 (hval 0 22 v0 rfl rfl)
  have k0 := h0
  have lt0 : ∀ x ∈ p0, x.block < W.heap.size := by obtain ⟨m, hm⟩ := k0; exact DataW.trod_lt m _ _ _ hm
  obtain ⟨z0, w0⟩ : ∃ zs, IsRow .u8 W a0 len0 cap0 zs := by
    obtain ⟨fuel, hf⟩ := h0
    rcases open_ints Try.underlying22 Try.underlying5 (by kernel_rfl) hf with ⟨hcs, _⟩ | ⟨x, l, c, zs, hcs, _, hl, hm, hz, _, hcell, hwz⟩
    · simp [Value.cells] at hcs
      obtain ⟨rfl, rfl, rfl⟩ := hcs
      exact ⟨[], .inl ⟨rfl, rfl, rfl, rfl⟩⟩
    · simp [Value.cells] at hcs
      obtain ⟨rfl, rfl, rfl⟩ := hcs
      exact ⟨zs, .inr ⟨_, rfl, hl, hm, by simpa using hz, hcell, hwz⟩⟩
  clear hA0 hval0
  refine (walk a0 len0 cap0 z0 W w0).mono fun e W' ⟨he, bel⟩ => ?_
  subst he
  exact ⟨_, rfl, _, _, _, [], _, [], hW', trodAll_mk1 (shut_bool Try.underlying4 _), (trodAll_cons_mk (Below.trod laidOut (by kernel_rfl) (of_decide_eq_true (by kernel_rfl)) k0 bel lt0) trodAll_mk0), rfl, bel.frame _, fun h => by cases h⟩

theorem over : Rows.fnOpensRow.holds Try.pinned (OpenSpec.ofChange Rows.fnOpensSpec) :=
  OpenClaim.holds_of_wide 5 Try.f5 rfl rfl rfl rfl rfl rfl rfl ⟨rfl, rfl, rfl, rfl, rfl⟩ rfl rfl rfl rfl rfl (by kernel_rfl) Try.func5 (by kernel_rfl)
    (of_decide_eq_true (by kernel_rfl)) (by unfold Func.isWrapper; first | (rw [if_pos (by decide +kernel)]; kernel_rfl) | (rw [if_neg (by decide +kernel)]; exact ⟨rfl, rfl⟩))
    (fun os started H enc _ => lifted os started H enc)

end Go.Proofs.Ytadppilldijijac.fnOpens
namespace Go.Proofs.Ytadppilldijijac
theorem fnOpens_holds : Rows.FnOpensSaid := fnOpens.over
#print axioms fnOpens_holds
end Go.Proofs.Ytadppilldijijac
