/-
  Contracts of chapter 4: who is told apart, and who is trusted: in the program and in its model.
-/
import Derived.Test.YtepobckhfodngabGreatJnQ
namespace Go.Proofs.YtepobckhfodngabGreat
open Go.ChangeShapes Go.WideShapes Go.ChangeAt Go.RowKit
set_option linter.unusedVariables false

theorem judgeR_none {z : MQuarrel} (h : ¬ z.xSome = true) : judgeR z = ⟨4, 0, 0⟩ := if_neg h
theorem judgeR_out {z : MQuarrel} (h : z.xSome = true) (k : ¬ Three z.xFrom z.xCheck z.xTo) : judgeR z = ⟨3, 0, 0⟩ := by unfold judgeR; rw [if_pos h, if_neg k]
theorem judgeR_in {z : MQuarrel} (h : z.xSome = true) (k : Three z.xFrom z.xCheck z.xTo) : judgeR z = ⟨0, mn (qA z) (qB z), mx (qA z) (qB z)⟩ := by unfold judgeR; rw [if_pos h, if_pos k]
set_option maxHeartbeats 4000000 in
set_option maxRecDepth 100000 in
theorem impl_JudgeQuarrel (v : Value) (z : MQuarrel) (w : World) (hv : RdQuarrel w v z) :
    Calls Tryz.prog 11 #[v] w fun e w' => ∃ u, e = .returned u ∧ RdPairResult w' u (judgeR z) ∧ Below w.heap.size w w' := by
  unfold RdQuarrel at hv
  subst hv
  have B0 : Below w.heap.size w ((w.alloc (.cells #[.bool z.xSome, .int .i64 z.xFrom, .int .i64 z.xCheck, .int .i64 z.xTo, .int .i64 z.xTold, .int .i64 z.xHeard, .int .i64 z.xOther, .int .i64 z.xVowed] 31)).alloc (.cells #[.int .i64 0, .int .i64 0, .int .i64 0] 47)) := (by repeat (first | exact Below.refl _ _ | refine Below.drew ?_ | refine below_drewN ?_ _ | refine Below.setCell ?_ (by first | omega | (simp; done) | (simp; omega)) _ | refine Below.alloc ?_ (by first | omega | (simp; done) | (simp; omega)) _))
  have X0 := (Blk.new w 31 #[.bool z.xSome, .int .i64 z.xFrom, .int .i64 z.xCheck, .int .i64 z.xTo, .int .i64 z.xTold, .int .i64 z.xHeard, .int .i64 z.xOther, .int .i64 z.xVowed]).alloc (.cells #[.int .i64 0, .int .i64 0, .int .i64 0] 47)
  have Y0 : Blk ((w.alloc (.cells #[.bool z.xSome, .int .i64 z.xFrom, .int .i64 z.xCheck, .int .i64 z.xTo, .int .i64 z.xTold, .int .i64 z.xHeard, .int .i64 z.xOther, .int .i64 z.xVowed] 31)).alloc (.cells #[.int .i64 0, .int .i64 0, .int .i64 0] 47)) (w.heap.size + 1) 47 #[.int .i64 0, .int .i64 0, .int .i64 0] := by simpa using Blk.new (w.alloc (.cells #[.bool z.xSome, .int .i64 z.xFrom, .int .i64 z.xCheck, .int .i64 z.xTo, .int .i64 z.xTold, .int .i64 z.xHeard, .int .i64 z.xOther, .int .i64 z.xVowed] 31)) 47 #[.int .i64 0, .int .i64 0, .int .i64 0]
  by_cases h0 : z.xSome = true
  · by_cases h1 : Three z.xFrom z.xCheck z.xTo
    · have HJ : Hid (judgeR z = ⟨0, mn (qA z) (qB z), mx (qA z) (qB z)⟩) := judgeR_in h0 h1
      rw [h0] at X0 Y0 B0 ⊢
      have H0 : Hid (z.xSome = true) := h0
      clear h0
      have K1 := impl_bFrom z
      have K2 := impl_bCheck z
      have K3 := impl_bBoth z
      rw [H0.out] at K1 K2 K3
      by_cases k1 : z.xHeard = z.xTold
      · have n1 : ∀ W, (binOp .neq 31 (.agg #[.bool true, .int .i64 z.xFrom, .int .i64 z.xCheck, .int .i64 z.xTo, .int .i64 z.xTold, .int .i64 z.xHeard, .int .i64 z.xOther, .int .i64 z.xVowed]) (.agg #[.bool true, .int .i64 z.xFrom, .int .i64 z.xCheck, .int .i64 z.xTo, .int .i64 z.xTold, .int .i64 z.xTold, .int .i64 z.xOther, .int .i64 z.xVowed])).run Tryz.prog W = .ok (.bool false) W := fun W => by rw [run_neqQ]; simp [k1]
        by_cases k2 : z.xOther = z.xVowed
        · have n2 : ∀ W, (binOp .neq 31 (.agg #[.bool true, .int .i64 z.xFrom, .int .i64 z.xCheck, .int .i64 z.xTo, .int .i64 z.xTold, .int .i64 z.xHeard, .int .i64 z.xOther, .int .i64 z.xVowed]) (.agg #[.bool true, .int .i64 z.xFrom, .int .i64 z.xCheck, .int .i64 z.xTo, .int .i64 z.xTold, .int .i64 z.xHeard, .int .i64 z.xVowed, .int .i64 z.xVowed])).run Tryz.prog W = .ok (.bool false) W := fun W => by rw [run_neqQ]; simp [k2]
          by_cases k3 : z.xTold = z.xVowed
          · have n3 : ∀ W, (binOp .neq 31 (.agg #[.bool true, .int .i64 z.xFrom, .int .i64 z.xCheck, .int .i64 z.xTo, .int .i64 z.xTold, .int .i64 z.xHeard, .int .i64 z.xOther, .int .i64 z.xVowed]) (.agg #[.bool true, .int .i64 z.xFrom, .int .i64 z.xCheck, .int .i64 z.xTo, .int .i64 z.xVowed, .int .i64 z.xHeard, .int .i64 z.xOther, .int .i64 z.xVowed])).run Tryz.prog W = .ok (.bool false) W := fun W => by rw [run_neqQ]; simp [k3]
            have HA : Hid (qA z = z.xTo) := if_neg (by omega)
            have HB : Hid (qB z = z.xFrom) := if_neg (by omega)
            clear k1 k2 k3
            go_enter Tryz.func11, Tryz.ntmps11
            go_wp2_with fail
            refine (impl_areThree_yes _ _ _ _ h1).mono ?_
            rintro e w' ⟨rfl, rfl⟩
            have hS : ∀ o, ((w.alloc (.cells #[.bool true, .int .i64 z.xFrom, .int .i64 z.xCheck, .int .i64 z.xTo, .int .i64 z.xTold, .int .i64 z.xHeard, .int .i64 z.xOther, .int .i64 z.xVowed] 31)).alloc (.cells #[.int .i64 0, .int .i64 0, .int .i64 0] 47)).cell? ⟨w.heap.size, o, none⟩ = (#[.bool true, .int .i64 z.xFrom, .int .i64 z.xCheck, .int .i64 z.xTo, .int .i64 z.xTold, .int .i64 z.xHeard, .int .i64 z.xOther, .int .i64 z.xVowed] : Array Value)[o]? := X0.at.1
            go_wp2_with fail
            go_region_held3 (fun V => ∀ o, V.cell? ⟨w.heap.size, o, none⟩ = (#[.bool true, .int .i64 z.xFrom, .int .i64 z.xCheck, .int .i64 z.xTo, .int .i64 z.xTold, .int .i64 z.xHeard, .int .i64 z.xOther, .int .i64 z.xVowed] : Array Value)[o]?) (first | exact hS | exact hS2) (first | (go_at_call 49; refine (K1 _).mono ?_; rintro e w1 ⟨rfl, hb⟩; have X1 := X0.drew.keep hb; have Y1 := Y0.drew.keep hb; have B1 := B0.drew.trans (hb.mono B0.size); have hS2 := X1.at.1; clear hb))
            clear hS hS2
            replace X0 := X1
            replace Y0 := Y1
            replace B0 := B1
            clear X1 Y1 B1
            have hS : ∀ o, w1.cell? ⟨w.heap.size, o, none⟩ = (#[.bool true, .int .i64 z.xFrom, .int .i64 z.xCheck, .int .i64 z.xTo, .int .i64 z.xTold, .int .i64 z.xHeard, .int .i64 z.xOther, .int .i64 z.xVowed] : Array Value)[o]? := X0.at.1
            go_wp2_with fail
            go_region_held3 (fun V => ∀ o, V.cell? ⟨w.heap.size, o, none⟩ = (#[.bool true, .int .i64 z.xFrom, .int .i64 z.xCheck, .int .i64 z.xTo, .int .i64 z.xTold, .int .i64 z.xHeard, .int .i64 z.xOther, .int .i64 z.xVowed] : Array Value)[o]?) (first | exact hS | exact hS2) (first | (go_at_call 51; refine (K2 _).mono ?_; rintro e w2 ⟨rfl, hb⟩; have X1 := X0.drew.keep hb; have Y1 := Y0.drew.keep hb; have B1 := B0.drew.trans (hb.mono B0.size); have hS2 := X1.at.1; clear hb))
            clear hS hS2
            replace X0 := X1
            replace Y0 := Y1
            replace B0 := B1
            clear X1 Y1 B1
            have hS : ∀ o, w2.cell? ⟨w.heap.size, o, none⟩ = (#[.bool true, .int .i64 z.xFrom, .int .i64 z.xCheck, .int .i64 z.xTo, .int .i64 z.xTold, .int .i64 z.xHeard, .int .i64 z.xOther, .int .i64 z.xVowed] : Array Value)[o]? := X0.at.1
            go_wp2_with fail
            go_region_held3 (fun V => ∀ o, V.cell? ⟨w.heap.size, o, none⟩ = (#[.bool true, .int .i64 z.xFrom, .int .i64 z.xCheck, .int .i64 z.xTo, .int .i64 z.xTold, .int .i64 z.xHeard, .int .i64 z.xOther, .int .i64 z.xVowed] : Array Value)[o]?) (first | exact hS | exact hS2) (first | (go_at_call 52; refine (K3 _).mono ?_; rintro e w3 ⟨rfl, hb⟩; have X1 := X0.drew.keep hb; have Y1 := Y0.drew.keep hb; have B1 := B0.drew.trans (hb.mono B0.size); have hS2 := X1.at.1; clear hb))
            clear hS hS2
            replace X0 := X1
            replace Y0 := Y1
            replace B0 := B1
            clear X1 Y1 B1
            have xa := X0.at.1
            have xl := X0.lt
            go_wp2_with fail
            refine (impl_pairOf _ _ _).mono ?_
            rintro e w9 ⟨rfl, hb⟩
            clear xa xl
            replace Y0 := Y0.keep hb
            replace B0 : Below w.heap.size w w9 := B0.trans (hb.mono B0.size)
            have ya := Y0.at.1
            have yb := Y0.at.2
            have yl := Y0.lt
            go_wp2
            exact bodyPost_ret (v := .agg #[.int .i64 0, .int .i64 (mn z.xTo z.xFrom), .int .i64 (mx z.xTo z.xFrom)]) (by simp [results, Tryz.results11, go_sem, ya]) rfl ⟨_, rfl, by rw [HJ.out, HA.out, HB.out]; rfl, (by have zz0 := (B0).size; (try simp at zz0); repeat (first | exact Below.refl _ _ | refine Below.drew ?_ | refine below_drewN ?_ _ | refine Below.setCell ?_ (by first | omega | (simp; done) | (simp; omega)) _ | refine Below.alloc ?_ (by first | omega | (simp; done) | (simp; omega)) _ | refine bcall ?_ B0 (by first | omega | (simp; done) | (simp; omega))))⟩
          · have n3 : ∀ W, (binOp .neq 31 (.agg #[.bool true, .int .i64 z.xFrom, .int .i64 z.xCheck, .int .i64 z.xTo, .int .i64 z.xTold, .int .i64 z.xHeard, .int .i64 z.xOther, .int .i64 z.xVowed]) (.agg #[.bool true, .int .i64 z.xFrom, .int .i64 z.xCheck, .int .i64 z.xTo, .int .i64 z.xVowed, .int .i64 z.xHeard, .int .i64 z.xOther, .int .i64 z.xVowed])).run Tryz.prog W = .ok (.bool true) W := fun W => by rw [run_neqQ]; simp [k3]
            have HA : Hid (qA z = z.xFrom) := if_pos ⟨k1, k2, k3⟩
            have HB : Hid (qB z = z.xCheck) := if_pos ⟨k1, .inr k3⟩
            clear k1 k2 k3
            go_enter Tryz.func11, Tryz.ntmps11
            go_wp2_with fail
            refine (impl_areThree_yes _ _ _ _ h1).mono ?_
            rintro e w' ⟨rfl, rfl⟩
            have hS : ∀ o, ((w.alloc (.cells #[.bool true, .int .i64 z.xFrom, .int .i64 z.xCheck, .int .i64 z.xTo, .int .i64 z.xTold, .int .i64 z.xHeard, .int .i64 z.xOther, .int .i64 z.xVowed] 31)).alloc (.cells #[.int .i64 0, .int .i64 0, .int .i64 0] 47)).cell? ⟨w.heap.size, o, none⟩ = (#[.bool true, .int .i64 z.xFrom, .int .i64 z.xCheck, .int .i64 z.xTo, .int .i64 z.xTold, .int .i64 z.xHeard, .int .i64 z.xOther, .int .i64 z.xVowed] : Array Value)[o]? := X0.at.1
            go_wp2_with fail
            go_region_held3 (fun V => ∀ o, V.cell? ⟨w.heap.size, o, none⟩ = (#[.bool true, .int .i64 z.xFrom, .int .i64 z.xCheck, .int .i64 z.xTo, .int .i64 z.xTold, .int .i64 z.xHeard, .int .i64 z.xOther, .int .i64 z.xVowed] : Array Value)[o]?) (first | exact hS | exact hS2) (first | (go_at_call 49; refine (K1 _).mono ?_; rintro e w1 ⟨rfl, hb⟩; have X1 := X0.drew.keep hb; have Y1 := Y0.drew.keep hb; have B1 := B0.drew.trans (hb.mono B0.size); have hS2 := X1.at.1; clear hb))
            clear hS hS2
            replace X0 := X1
            replace Y0 := Y1
            replace B0 := B1
            clear X1 Y1 B1
            have hS : ∀ o, w1.cell? ⟨w.heap.size, o, none⟩ = (#[.bool true, .int .i64 z.xFrom, .int .i64 z.xCheck, .int .i64 z.xTo, .int .i64 z.xTold, .int .i64 z.xHeard, .int .i64 z.xOther, .int .i64 z.xVowed] : Array Value)[o]? := X0.at.1
            go_wp2_with fail
            go_region_held3 (fun V => ∀ o, V.cell? ⟨w.heap.size, o, none⟩ = (#[.bool true, .int .i64 z.xFrom, .int .i64 z.xCheck, .int .i64 z.xTo, .int .i64 z.xTold, .int .i64 z.xHeard, .int .i64 z.xOther, .int .i64 z.xVowed] : Array Value)[o]?) (first | exact hS | exact hS2) (first | (go_at_call 51; refine (K2 _).mono ?_; rintro e w2 ⟨rfl, hb⟩; have X1 := X0.drew.keep hb; have Y1 := Y0.drew.keep hb; have B1 := B0.drew.trans (hb.mono B0.size); have hS2 := X1.at.1; clear hb))
            clear hS hS2
            replace X0 := X1
            replace Y0 := Y1
            replace B0 := B1
            clear X1 Y1 B1
            have hS : ∀ o, w2.cell? ⟨w.heap.size, o, none⟩ = (#[.bool true, .int .i64 z.xFrom, .int .i64 z.xCheck, .int .i64 z.xTo, .int .i64 z.xTold, .int .i64 z.xHeard, .int .i64 z.xOther, .int .i64 z.xVowed] : Array Value)[o]? := X0.at.1
            go_wp2_with fail
            go_region_held3 (fun V => ∀ o, V.cell? ⟨w.heap.size, o, none⟩ = (#[.bool true, .int .i64 z.xFrom, .int .i64 z.xCheck, .int .i64 z.xTo, .int .i64 z.xTold, .int .i64 z.xHeard, .int .i64 z.xOther, .int .i64 z.xVowed] : Array Value)[o]?) (first | exact hS | exact hS2) (first | (go_at_call 52; refine (K3 _).mono ?_; rintro e w3 ⟨rfl, hb⟩; have X1 := X0.drew.keep hb; have Y1 := Y0.drew.keep hb; have B1 := B0.drew.trans (hb.mono B0.size); have hS2 := X1.at.1; clear hb))
            clear hS hS2
            replace X0 := X1
            replace Y0 := Y1
            replace B0 := B1
            clear X1 Y1 B1
            have xa := X0.at.1
            have xl := X0.lt
            go_wp2_with fail
            refine (impl_pairOf _ _ _).mono ?_
            rintro e w9 ⟨rfl, hb⟩
            clear xa xl
            replace Y0 := Y0.keep hb
            replace B0 : Below w.heap.size w w9 := B0.trans (hb.mono B0.size)
            have ya := Y0.at.1
            have yb := Y0.at.2
            have yl := Y0.lt
            go_wp2
            exact bodyPost_ret (v := .agg #[.int .i64 0, .int .i64 (mn z.xFrom z.xCheck), .int .i64 (mx z.xFrom z.xCheck)]) (by simp [results, Tryz.results11, go_sem, ya]) rfl ⟨_, rfl, by rw [HJ.out, HA.out, HB.out]; rfl, (by have zz0 := (B0).size; (try simp at zz0); repeat (first | exact Below.refl _ _ | refine Below.drew ?_ | refine below_drewN ?_ _ | refine Below.setCell ?_ (by first | omega | (simp; done) | (simp; omega)) _ | refine Below.alloc ?_ (by first | omega | (simp; done) | (simp; omega)) _ | refine bcall ?_ B0 (by first | omega | (simp; done) | (simp; omega))))⟩
        · have n2 : ∀ W, (binOp .neq 31 (.agg #[.bool true, .int .i64 z.xFrom, .int .i64 z.xCheck, .int .i64 z.xTo, .int .i64 z.xTold, .int .i64 z.xHeard, .int .i64 z.xOther, .int .i64 z.xVowed]) (.agg #[.bool true, .int .i64 z.xFrom, .int .i64 z.xCheck, .int .i64 z.xTo, .int .i64 z.xTold, .int .i64 z.xHeard, .int .i64 z.xVowed, .int .i64 z.xVowed])).run Tryz.prog W = .ok (.bool true) W := fun W => by rw [run_neqQ]; simp [k2]
          have HA : Hid (qA z = z.xTo) := if_neg (by omega)
          have HB : Hid (qB z = z.xCheck) := if_pos ⟨k1, .inl k2⟩
          clear k1 k2
          go_enter Tryz.func11, Tryz.ntmps11
          go_wp2_with fail
          refine (impl_areThree_yes _ _ _ _ h1).mono ?_
          rintro e w' ⟨rfl, rfl⟩
          have hS : ∀ o, ((w.alloc (.cells #[.bool true, .int .i64 z.xFrom, .int .i64 z.xCheck, .int .i64 z.xTo, .int .i64 z.xTold, .int .i64 z.xHeard, .int .i64 z.xOther, .int .i64 z.xVowed] 31)).alloc (.cells #[.int .i64 0, .int .i64 0, .int .i64 0] 47)).cell? ⟨w.heap.size, o, none⟩ = (#[.bool true, .int .i64 z.xFrom, .int .i64 z.xCheck, .int .i64 z.xTo, .int .i64 z.xTold, .int .i64 z.xHeard, .int .i64 z.xOther, .int .i64 z.xVowed] : Array Value)[o]? := X0.at.1
          go_wp2_with fail
          go_region_held3 (fun V => ∀ o, V.cell? ⟨w.heap.size, o, none⟩ = (#[.bool true, .int .i64 z.xFrom, .int .i64 z.xCheck, .int .i64 z.xTo, .int .i64 z.xTold, .int .i64 z.xHeard, .int .i64 z.xOther, .int .i64 z.xVowed] : Array Value)[o]?) (first | exact hS | exact hS2) (first | (go_at_call 49; refine (K1 _).mono ?_; rintro e w1 ⟨rfl, hb⟩; have X1 := X0.drew.keep hb; have Y1 := Y0.drew.keep hb; have B1 := B0.drew.trans (hb.mono B0.size); have hS2 := X1.at.1; clear hb))
          clear hS hS2
          replace X0 := X1
          replace Y0 := Y1
          replace B0 := B1
          clear X1 Y1 B1
          have hS : ∀ o, w1.cell? ⟨w.heap.size, o, none⟩ = (#[.bool true, .int .i64 z.xFrom, .int .i64 z.xCheck, .int .i64 z.xTo, .int .i64 z.xTold, .int .i64 z.xHeard, .int .i64 z.xOther, .int .i64 z.xVowed] : Array Value)[o]? := X0.at.1
          go_wp2_with fail
          go_region_held3 (fun V => ∀ o, V.cell? ⟨w.heap.size, o, none⟩ = (#[.bool true, .int .i64 z.xFrom, .int .i64 z.xCheck, .int .i64 z.xTo, .int .i64 z.xTold, .int .i64 z.xHeard, .int .i64 z.xOther, .int .i64 z.xVowed] : Array Value)[o]?) (first | exact hS | exact hS2) (first | (go_at_call 51; refine (K2 _).mono ?_; rintro e w2 ⟨rfl, hb⟩; have X1 := X0.drew.keep hb; have Y1 := Y0.drew.keep hb; have B1 := B0.drew.trans (hb.mono B0.size); have hS2 := X1.at.1; clear hb))
          clear hS hS2
          replace X0 := X1
          replace Y0 := Y1
          replace B0 := B1
          clear X1 Y1 B1
          have xa := X0.at.1
          have xl := X0.lt
          go_wp2_with fail
          refine (impl_pairOf _ _ _).mono ?_
          rintro e w9 ⟨rfl, hb⟩
          clear xa xl
          replace Y0 := Y0.keep hb
          replace B0 : Below w.heap.size w w9 := B0.trans (hb.mono B0.size)
          have ya := Y0.at.1
          have yb := Y0.at.2
          have yl := Y0.lt
          go_wp2
          exact bodyPost_ret (v := .agg #[.int .i64 0, .int .i64 (mn z.xTo z.xCheck), .int .i64 (mx z.xTo z.xCheck)]) (by simp [results, Tryz.results11, go_sem, ya]) rfl ⟨_, rfl, by rw [HJ.out, HA.out, HB.out]; rfl, (by have zz0 := (B0).size; (try simp at zz0); repeat (first | exact Below.refl _ _ | refine Below.drew ?_ | refine below_drewN ?_ _ | refine Below.setCell ?_ (by first | omega | (simp; done) | (simp; omega)) _ | refine Below.alloc ?_ (by first | omega | (simp; done) | (simp; omega)) _ | refine bcall ?_ B0 (by first | omega | (simp; done) | (simp; omega))))⟩
      · have n1 : ∀ W, (binOp .neq 31 (.agg #[.bool true, .int .i64 z.xFrom, .int .i64 z.xCheck, .int .i64 z.xTo, .int .i64 z.xTold, .int .i64 z.xHeard, .int .i64 z.xOther, .int .i64 z.xVowed]) (.agg #[.bool true, .int .i64 z.xFrom, .int .i64 z.xCheck, .int .i64 z.xTo, .int .i64 z.xTold, .int .i64 z.xTold, .int .i64 z.xOther, .int .i64 z.xVowed])).run Tryz.prog W = .ok (.bool true) W := fun W => by rw [run_neqQ]; simp [k1]
        have HA : Hid (qA z = z.xTo) := if_neg (by omega)
        have HB : Hid (qB z = z.xFrom) := if_neg (by omega)
        clear k1
        go_enter Tryz.func11, Tryz.ntmps11
        go_wp2_with fail
        refine (impl_areThree_yes _ _ _ _ h1).mono ?_
        rintro e w' ⟨rfl, rfl⟩
        have hS : ∀ o, ((w.alloc (.cells #[.bool true, .int .i64 z.xFrom, .int .i64 z.xCheck, .int .i64 z.xTo, .int .i64 z.xTold, .int .i64 z.xHeard, .int .i64 z.xOther, .int .i64 z.xVowed] 31)).alloc (.cells #[.int .i64 0, .int .i64 0, .int .i64 0] 47)).cell? ⟨w.heap.size, o, none⟩ = (#[.bool true, .int .i64 z.xFrom, .int .i64 z.xCheck, .int .i64 z.xTo, .int .i64 z.xTold, .int .i64 z.xHeard, .int .i64 z.xOther, .int .i64 z.xVowed] : Array Value)[o]? := X0.at.1
        go_wp2_with fail
        go_region_held3 (fun V => ∀ o, V.cell? ⟨w.heap.size, o, none⟩ = (#[.bool true, .int .i64 z.xFrom, .int .i64 z.xCheck, .int .i64 z.xTo, .int .i64 z.xTold, .int .i64 z.xHeard, .int .i64 z.xOther, .int .i64 z.xVowed] : Array Value)[o]?) (first | exact hS | exact hS2) (first | (go_at_call 49; refine (K1 _).mono ?_; rintro e w1 ⟨rfl, hb⟩; have X1 := X0.drew.keep hb; have Y1 := Y0.drew.keep hb; have B1 := B0.drew.trans (hb.mono B0.size); have hS2 := X1.at.1; clear hb))
        clear hS hS2
        replace X0 := X1
        replace Y0 := Y1
        replace B0 := B1
        clear X1 Y1 B1
        have xa := X0.at.1
        have xl := X0.lt
        go_wp2_with fail
        refine (impl_pairOf _ _ _).mono ?_
        rintro e w9 ⟨rfl, hb⟩
        clear xa xl
        replace Y0 := Y0.keep hb
        replace B0 : Below w.heap.size w w9 := B0.trans (hb.mono B0.size)
        have ya := Y0.at.1
        have yb := Y0.at.2
        have yl := Y0.lt
        go_wp2
        exact bodyPost_ret (v := .agg #[.int .i64 0, .int .i64 (mn z.xTo z.xFrom), .int .i64 (mx z.xTo z.xFrom)]) (by simp [results, Tryz.results11, go_sem, ya]) rfl ⟨_, rfl, by rw [HJ.out, HA.out, HB.out]; rfl, (by have zz0 := (B0).size; (try simp at zz0); repeat (first | exact Below.refl _ _ | refine Below.drew ?_ | refine below_drewN ?_ _ | refine Below.setCell ?_ (by first | omega | (simp; done) | (simp; omega)) _ | refine Below.alloc ?_ (by first | omega | (simp; done) | (simp; omega)) _ | refine bcall ?_ B0 (by first | omega | (simp; done) | (simp; omega))))⟩
    · rw [judgeR_out h0 h1]
      clear X0 Y0 B0
      go_enter Tryz.func11, Tryz.ntmps11
      go_wp2_with fail
      refine (impl_areThree_no _ _ _ _ h1).mono ?_
      rintro e w' ⟨rfl, rfl⟩
      go_wp2
      exact bodyPost_ret (v := .agg #[.int .i64 3, .int .i64 0, .int .i64 0]) (by simp [results, Tryz.results11, go_sem]) rfl ⟨_, rfl, rfl, (by repeat (first | exact Below.refl _ _ | refine Below.drew ?_ | refine below_drewN ?_ _ | refine Below.setCell ?_ (by first | omega | (simp; done) | (simp; omega)) _ | refine Below.alloc ?_ (by first | omega | (simp; done) | (simp; omega)) _))⟩
  · rw [judgeR_none h0]
    have e0 : z.xSome = false := by simpa using h0
    clear X0 Y0 B0 h0
    go_enter Tryz.func11, Tryz.ntmps11
    go_wp2
    exact bodyPost_ret (v := .agg #[.int .i64 4, .int .i64 0, .int .i64 0]) (by simp [results, Tryz.results11, go_sem]) rfl ⟨_, rfl, rfl, (by repeat (first | exact Below.refl _ _ | refine Below.drew ?_ | refine below_drewN ?_ _ | refine Below.setCell ?_ (by first | omega | (simp; done) | (simp; omega)) _ | refine Below.alloc ?_ (by first | omega | (simp; done) | (simp; omega)) _))⟩
end Go.Proofs.YtepobckhfodngabGreat
