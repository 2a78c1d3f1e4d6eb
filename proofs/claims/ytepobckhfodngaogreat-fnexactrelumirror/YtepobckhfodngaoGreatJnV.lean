/-
  Contracts of chapter 4: the quarrel as the three tell of it, in the program.
-/
import Derived.Test.YtepobckhfodngaoGreatJnS
namespace Go.Proofs.YtepobckhfodngaoGreat
open Go.ChangeShapes Go.WideShapes Go.ChangeAt Go.RowKit
set_option linter.unusedVariables false

/-- the quarrel as the three tell of it -/
def claimZ (c : MCheat) (q : Int) (z : MQuarrel) : MQuarrel := { z with xTold := standV c z.xFrom z.xTold z.xHeard, xHeard := if c.xWho = z.xTo then (z.xHeard + c.xBy) % q else z.xHeard, xVowed := standV c z.xCheck z.xVowed z.xOther }
def qcells (z : MQuarrel) : Array Value := #[.bool z.xSome, .int .i64 z.xFrom, .int .i64 z.xCheck, .int .i64 z.xTo, .int .i64 z.xTold, .int .i64 z.xHeard, .int .i64 z.xOther, .int .i64 z.xVowed]
set_option maxHeartbeats 4000000 in
set_option maxRecDepth 100000 in
theorem impl_claimed (c : MCheat) (q : Int) (z : MQuarrel) (w : World) (hq : q = 2 ∨ q = 256) (hv : 0 ≤ z.xHeard ∧ z.xHeard < q) (hy : 0 ≤ c.xBy ∧ c.xBy ≤ 255) (hd : z.xFrom ≠ z.xCheck ∧ z.xFrom ≠ z.xTo ∧ z.xCheck ≠ z.xTo) :
    Calls Tryz.prog 164 #[.agg #[.int .i64 c.xWho, .int .i64 c.xAt, .int .i64 c.xBy, .bool c.xCry], .int .i64 q, .agg #[.bool z.xSome, .int .i64 z.xFrom, .int .i64 z.xCheck, .int .i64 z.xTo, .int .i64 z.xTold, .int .i64 z.xHeard, .int .i64 z.xOther, .int .i64 z.xVowed]] w fun e w' => e = .returned (.agg (qcells (claimZ c q z))) ∧ Below w.heap.size w w' := by
  have KF := fun V => impl_isBy c z.xFrom V
  have KC := fun V => impl_isBy c z.xCheck V
  have KT := fun V => impl_isBy c z.xTo V
  have yes : ∀ p : Int, c.xWho = p → (p == c.xWho) = true := fun p h => by simpa using h.symm
  have no : ∀ p : Int, ¬ c.xWho = p → (p == c.xWho) = false := fun p h => by simpa using fun k => h k.symm
  obtain ⟨hd1, hd2, hd3⟩ := hd
  cases hc : c.xCry
  · by_cases hT : c.xWho = z.xTo
    · skip
      have hF : ¬ c.xWho = z.xFrom ∨ True := .inr trivial
      have hC : True := trivial
      have e1 : qcells (claimZ c q z) = #[.bool z.xSome, .int .i64 z.xFrom, .int .i64 z.xCheck, .int .i64 z.xTo, .int .i64 z.xTold, .int .i64 ((z.xHeard + c.xBy) % q), .int .i64 z.xOther, .int .i64 z.xVowed] := by
        unfold qcells claimZ standV
        simp only []
        rw [if_neg (fun k => by have := k.2; rw [hc] at this; cases this), if_pos hT, if_neg (fun k => by have := k.2; rw [hc] at this; cases this)]
      rw [e1]
      clear e1
      clear KF
      clear KC
      rw [yes _ hT] at KT
      clear yes no
      rw [hc] at KT
      clear hc hd1 hd2 hd3
      clear hF hC hT
      have B : Below w.heap.size w (((w.alloc (.cells #[.int .i64 c.xWho, .int .i64 c.xAt, .int .i64 c.xBy, .bool false] 38)).alloc (.cells #[.bool z.xSome, .int .i64 z.xFrom, .int .i64 z.xCheck, .int .i64 z.xTo, .int .i64 z.xTold, .int .i64 z.xHeard, .int .i64 z.xOther, .int .i64 z.xVowed] 39)).alloc (.cells #[.bool false, .int .i64 0, .int .i64 0, .int .i64 0, .int .i64 0, .int .i64 0, .int .i64 0, .int .i64 0] 39)) := (by repeat (first | exact Below.refl _ _ | refine Below.drew ?_ | refine below_drewN ?_ _ | refine Below.setCell ?_ (by first | omega | (simp; done) | (simp; omega)) _ | refine Below.alloc ?_ (by first | omega | (simp; done) | (simp; omega)) _))
      have X : Blk (((w.alloc (.cells #[.int .i64 c.xWho, .int .i64 c.xAt, .int .i64 c.xBy, .bool false] 38)).alloc (.cells #[.bool z.xSome, .int .i64 z.xFrom, .int .i64 z.xCheck, .int .i64 z.xTo, .int .i64 z.xTold, .int .i64 z.xHeard, .int .i64 z.xOther, .int .i64 z.xVowed] 39)).alloc (.cells #[.bool false, .int .i64 0, .int .i64 0, .int .i64 0, .int .i64 0, .int .i64 0, .int .i64 0, .int .i64 0] 39)) w.heap.size 38 #[.int .i64 c.xWho, .int .i64 c.xAt, .int .i64 c.xBy, .bool false] := ((Blk.new w _ _).alloc _).alloc _
      have Z : Blk (((w.alloc (.cells #[.int .i64 c.xWho, .int .i64 c.xAt, .int .i64 c.xBy, .bool false] 38)).alloc (.cells #[.bool z.xSome, .int .i64 z.xFrom, .int .i64 z.xCheck, .int .i64 z.xTo, .int .i64 z.xTold, .int .i64 z.xHeard, .int .i64 z.xOther, .int .i64 z.xVowed] 39)).alloc (.cells #[.bool false, .int .i64 0, .int .i64 0, .int .i64 0, .int .i64 0, .int .i64 0, .int .i64 0, .int .i64 0] 39)) (w.heap.size + 1) 39 #[.bool z.xSome, .int .i64 z.xFrom, .int .i64 z.xCheck, .int .i64 z.xTo, .int .i64 z.xTold, .int .i64 z.xHeard, .int .i64 z.xOther, .int .i64 z.xVowed] := by simpa using (Blk.new (w.alloc (.cells #[.int .i64 c.xWho, .int .i64 c.xAt, .int .i64 c.xBy, .bool false] 38)) 39 #[.bool z.xSome, .int .i64 z.xFrom, .int .i64 z.xCheck, .int .i64 z.xTo, .int .i64 z.xTold, .int .i64 z.xHeard, .int .i64 z.xOther, .int .i64 z.xVowed]).alloc (.cells #[.bool false, .int .i64 0, .int .i64 0, .int .i64 0, .int .i64 0, .int .i64 0, .int .i64 0, .int .i64 0] 39)
      have R : Blk (((w.alloc (.cells #[.int .i64 c.xWho, .int .i64 c.xAt, .int .i64 c.xBy, .bool false] 38)).alloc (.cells #[.bool z.xSome, .int .i64 z.xFrom, .int .i64 z.xCheck, .int .i64 z.xTo, .int .i64 z.xTold, .int .i64 z.xHeard, .int .i64 z.xOther, .int .i64 z.xVowed] 39)).alloc (.cells #[.bool false, .int .i64 0, .int .i64 0, .int .i64 0, .int .i64 0, .int .i64 0, .int .i64 0, .int .i64 0] 39)) (w.heap.size + 1 + 1) 39 #[.bool false, .int .i64 0, .int .i64 0, .int .i64 0, .int .i64 0, .int .i64 0, .int .i64 0, .int .i64 0] := by simpa using Blk.new ((w.alloc (.cells #[.int .i64 c.xWho, .int .i64 c.xAt, .int .i64 c.xBy, .bool false] 38)).alloc (.cells #[.bool z.xSome, .int .i64 z.xFrom, .int .i64 z.xCheck, .int .i64 z.xTo, .int .i64 z.xTold, .int .i64 z.xHeard, .int .i64 z.xOther, .int .i64 z.xVowed] 39)) 39 #[.bool false, .int .i64 0, .int .i64 0, .int .i64 0, .int .i64 0, .int .i64 0, .int .i64 0, .int .i64 0]
      go_enter Tryz.func164, Tryz.ntmps164
      go_wp2_with fail
      refine (KT _).mono ?_
      rintro e w1 ⟨rfl, hb⟩
      replace X := X.keep hb
      replace Z := Z.keep hb
      replace R := R.keep hb
      replace B := B.trans (hb.mono B.size)
      clear hb
      have KU := fun V => impl_turned { c with xCry := false } q z.xHeard V hq hv hy
      dsimp only at KU
      have xa := X.at.1
      have za := Z.at.1
      have zb := Z.at.2
      have zl := Z.lt
      go_wp2_with fail
      clear xa za zb zl
      refine (KU _).mono ?_
      rintro e w2 ⟨rfl, hb⟩
      replace X := X.keep hb
      replace Z := Z.keep hb
      replace R := R.keep hb
      replace B := B.trans (hb.mono B.size)
      clear hb
      have xa := X.at.1
      have za := Z.at.1
      have zb := Z.at.2
      have zl := Z.lt
      have ra := R.at.1
      have rb := R.at.2
      have rl := R.lt
      have OO : ∀ V, Off [w.heap.size + 1, w.heap.size + 1 + 1] w2 V → Below w.heap.size w V := fun V O => B.trans (O.toBelow B.size (by simp; omega))
      go_wp2
      exact bodyPost_ret (v := .agg #[.bool z.xSome, .int .i64 z.xFrom, .int .i64 z.xCheck, .int .i64 z.xTo, .int .i64 z.xTold, .int .i64 ((z.xHeard + c.xBy) % q), .int .i64 z.xOther, .int .i64 z.xVowed]) (by simp [results, Tryz.results164, go_sem, ra]) rfl ⟨rfl, OO _ (((((((((((Off.refl _ _).setCell _ _ (by simp)).setCell _ _ (by simp)).setCell _ _ (by simp)).setCell _ _ (by simp)).setCell _ _ (by simp)).setCell _ _ (by simp)).setCell _ _ (by simp)).setCell _ _ (by simp)).setCell _ _ (by simp)))⟩
    · skip
      have hF : ¬ c.xWho = z.xFrom ∨ True := .inr trivial
      have hC : True := trivial
      have e1 : qcells (claimZ c q z) = #[.bool z.xSome, .int .i64 z.xFrom, .int .i64 z.xCheck, .int .i64 z.xTo, .int .i64 z.xTold, .int .i64 z.xHeard, .int .i64 z.xOther, .int .i64 z.xVowed] := by
        unfold qcells claimZ standV
        simp only []
        rw [if_neg (fun k => by have := k.2; rw [hc] at this; cases this), if_neg hT, if_neg (fun k => by have := k.2; rw [hc] at this; cases this)]
      rw [e1]
      clear e1
      clear KF
      clear KC
      rw [no _ hT] at KT
      clear yes no
      rw [hc] at KT
      clear hc hd1 hd2 hd3
      clear hF hC hT
      have B : Below w.heap.size w (((w.alloc (.cells #[.int .i64 c.xWho, .int .i64 c.xAt, .int .i64 c.xBy, .bool false] 38)).alloc (.cells #[.bool z.xSome, .int .i64 z.xFrom, .int .i64 z.xCheck, .int .i64 z.xTo, .int .i64 z.xTold, .int .i64 z.xHeard, .int .i64 z.xOther, .int .i64 z.xVowed] 39)).alloc (.cells #[.bool false, .int .i64 0, .int .i64 0, .int .i64 0, .int .i64 0, .int .i64 0, .int .i64 0, .int .i64 0] 39)) := (by repeat (first | exact Below.refl _ _ | refine Below.drew ?_ | refine below_drewN ?_ _ | refine Below.setCell ?_ (by first | omega | (simp; done) | (simp; omega)) _ | refine Below.alloc ?_ (by first | omega | (simp; done) | (simp; omega)) _))
      have X : Blk (((w.alloc (.cells #[.int .i64 c.xWho, .int .i64 c.xAt, .int .i64 c.xBy, .bool false] 38)).alloc (.cells #[.bool z.xSome, .int .i64 z.xFrom, .int .i64 z.xCheck, .int .i64 z.xTo, .int .i64 z.xTold, .int .i64 z.xHeard, .int .i64 z.xOther, .int .i64 z.xVowed] 39)).alloc (.cells #[.bool false, .int .i64 0, .int .i64 0, .int .i64 0, .int .i64 0, .int .i64 0, .int .i64 0, .int .i64 0] 39)) w.heap.size 38 #[.int .i64 c.xWho, .int .i64 c.xAt, .int .i64 c.xBy, .bool false] := ((Blk.new w _ _).alloc _).alloc _
      have Z : Blk (((w.alloc (.cells #[.int .i64 c.xWho, .int .i64 c.xAt, .int .i64 c.xBy, .bool false] 38)).alloc (.cells #[.bool z.xSome, .int .i64 z.xFrom, .int .i64 z.xCheck, .int .i64 z.xTo, .int .i64 z.xTold, .int .i64 z.xHeard, .int .i64 z.xOther, .int .i64 z.xVowed] 39)).alloc (.cells #[.bool false, .int .i64 0, .int .i64 0, .int .i64 0, .int .i64 0, .int .i64 0, .int .i64 0, .int .i64 0] 39)) (w.heap.size + 1) 39 #[.bool z.xSome, .int .i64 z.xFrom, .int .i64 z.xCheck, .int .i64 z.xTo, .int .i64 z.xTold, .int .i64 z.xHeard, .int .i64 z.xOther, .int .i64 z.xVowed] := by simpa using (Blk.new (w.alloc (.cells #[.int .i64 c.xWho, .int .i64 c.xAt, .int .i64 c.xBy, .bool false] 38)) 39 #[.bool z.xSome, .int .i64 z.xFrom, .int .i64 z.xCheck, .int .i64 z.xTo, .int .i64 z.xTold, .int .i64 z.xHeard, .int .i64 z.xOther, .int .i64 z.xVowed]).alloc (.cells #[.bool false, .int .i64 0, .int .i64 0, .int .i64 0, .int .i64 0, .int .i64 0, .int .i64 0, .int .i64 0] 39)
      have R : Blk (((w.alloc (.cells #[.int .i64 c.xWho, .int .i64 c.xAt, .int .i64 c.xBy, .bool false] 38)).alloc (.cells #[.bool z.xSome, .int .i64 z.xFrom, .int .i64 z.xCheck, .int .i64 z.xTo, .int .i64 z.xTold, .int .i64 z.xHeard, .int .i64 z.xOther, .int .i64 z.xVowed] 39)).alloc (.cells #[.bool false, .int .i64 0, .int .i64 0, .int .i64 0, .int .i64 0, .int .i64 0, .int .i64 0, .int .i64 0] 39)) (w.heap.size + 1 + 1) 39 #[.bool false, .int .i64 0, .int .i64 0, .int .i64 0, .int .i64 0, .int .i64 0, .int .i64 0, .int .i64 0] := by simpa using Blk.new ((w.alloc (.cells #[.int .i64 c.xWho, .int .i64 c.xAt, .int .i64 c.xBy, .bool false] 38)).alloc (.cells #[.bool z.xSome, .int .i64 z.xFrom, .int .i64 z.xCheck, .int .i64 z.xTo, .int .i64 z.xTold, .int .i64 z.xHeard, .int .i64 z.xOther, .int .i64 z.xVowed] 39)) 39 #[.bool false, .int .i64 0, .int .i64 0, .int .i64 0, .int .i64 0, .int .i64 0, .int .i64 0, .int .i64 0]
      go_enter Tryz.func164, Tryz.ntmps164
      go_wp2_with fail
      refine (KT _).mono ?_
      rintro e w1 ⟨rfl, hb⟩
      replace X := X.keep hb
      replace Z := Z.keep hb
      replace R := R.keep hb
      replace B := B.trans (hb.mono B.size)
      clear hb
      have xa := X.at.1
      have za := Z.at.1
      have zb := Z.at.2
      have zl := Z.lt
      have ra := R.at.1
      have rb := R.at.2
      have rl := R.lt
      have OO : ∀ V, Off [w.heap.size + 1, w.heap.size + 1 + 1] w1 V → Below w.heap.size w V := fun V O => B.trans (O.toBelow B.size (by simp; omega))
      go_wp2
      exact bodyPost_ret (v := .agg #[.bool z.xSome, .int .i64 z.xFrom, .int .i64 z.xCheck, .int .i64 z.xTo, .int .i64 z.xTold, .int .i64 z.xHeard, .int .i64 z.xOther, .int .i64 z.xVowed]) (by simp [results, Tryz.results164, go_sem, ra]) rfl ⟨rfl, OO _ ((((((((((Off.refl _ _).setCell _ _ (by simp)).setCell _ _ (by simp)).setCell _ _ (by simp)).setCell _ _ (by simp)).setCell _ _ (by simp)).setCell _ _ (by simp)).setCell _ _ (by simp)).setCell _ _ (by simp)))⟩
  · by_cases hT : c.xWho = z.xTo
    · skip
      have hF : ¬ c.xWho = z.xFrom := fun h => hd2 (h.symm.trans hT)
      have hC : ¬ c.xWho = z.xCheck := fun h => hd3 (h.symm.trans hT)
      have e1 : qcells (claimZ c q z) = #[.bool z.xSome, .int .i64 z.xFrom, .int .i64 z.xCheck, .int .i64 z.xTo, .int .i64 z.xTold, .int .i64 ((z.xHeard + c.xBy) % q), .int .i64 z.xOther, .int .i64 z.xVowed] := by
        unfold qcells claimZ standV
        simp only []
        rw [if_neg (fun k => hF k.1), if_pos hT, if_neg (fun k => hC k.1)]
      rw [e1]
      clear e1
      rw [no _ hF] at KF
      rw [no _ hC] at KC
      rw [yes _ hT] at KT
      clear yes no
      rw [hc] at KF KC KT
      clear hc hd1 hd2 hd3
      clear hF hC hT
      have B : Below w.heap.size w (((w.alloc (.cells #[.int .i64 c.xWho, .int .i64 c.xAt, .int .i64 c.xBy, .bool true] 38)).alloc (.cells #[.bool z.xSome, .int .i64 z.xFrom, .int .i64 z.xCheck, .int .i64 z.xTo, .int .i64 z.xTold, .int .i64 z.xHeard, .int .i64 z.xOther, .int .i64 z.xVowed] 39)).alloc (.cells #[.bool false, .int .i64 0, .int .i64 0, .int .i64 0, .int .i64 0, .int .i64 0, .int .i64 0, .int .i64 0] 39)) := (by repeat (first | exact Below.refl _ _ | refine Below.drew ?_ | refine below_drewN ?_ _ | refine Below.setCell ?_ (by first | omega | (simp; done) | (simp; omega)) _ | refine Below.alloc ?_ (by first | omega | (simp; done) | (simp; omega)) _))
      have X : Blk (((w.alloc (.cells #[.int .i64 c.xWho, .int .i64 c.xAt, .int .i64 c.xBy, .bool true] 38)).alloc (.cells #[.bool z.xSome, .int .i64 z.xFrom, .int .i64 z.xCheck, .int .i64 z.xTo, .int .i64 z.xTold, .int .i64 z.xHeard, .int .i64 z.xOther, .int .i64 z.xVowed] 39)).alloc (.cells #[.bool false, .int .i64 0, .int .i64 0, .int .i64 0, .int .i64 0, .int .i64 0, .int .i64 0, .int .i64 0] 39)) w.heap.size 38 #[.int .i64 c.xWho, .int .i64 c.xAt, .int .i64 c.xBy, .bool true] := ((Blk.new w _ _).alloc _).alloc _
      have Z : Blk (((w.alloc (.cells #[.int .i64 c.xWho, .int .i64 c.xAt, .int .i64 c.xBy, .bool true] 38)).alloc (.cells #[.bool z.xSome, .int .i64 z.xFrom, .int .i64 z.xCheck, .int .i64 z.xTo, .int .i64 z.xTold, .int .i64 z.xHeard, .int .i64 z.xOther, .int .i64 z.xVowed] 39)).alloc (.cells #[.bool false, .int .i64 0, .int .i64 0, .int .i64 0, .int .i64 0, .int .i64 0, .int .i64 0, .int .i64 0] 39)) (w.heap.size + 1) 39 #[.bool z.xSome, .int .i64 z.xFrom, .int .i64 z.xCheck, .int .i64 z.xTo, .int .i64 z.xTold, .int .i64 z.xHeard, .int .i64 z.xOther, .int .i64 z.xVowed] := by simpa using (Blk.new (w.alloc (.cells #[.int .i64 c.xWho, .int .i64 c.xAt, .int .i64 c.xBy, .bool true] 38)) 39 #[.bool z.xSome, .int .i64 z.xFrom, .int .i64 z.xCheck, .int .i64 z.xTo, .int .i64 z.xTold, .int .i64 z.xHeard, .int .i64 z.xOther, .int .i64 z.xVowed]).alloc (.cells #[.bool false, .int .i64 0, .int .i64 0, .int .i64 0, .int .i64 0, .int .i64 0, .int .i64 0, .int .i64 0] 39)
      have R : Blk (((w.alloc (.cells #[.int .i64 c.xWho, .int .i64 c.xAt, .int .i64 c.xBy, .bool true] 38)).alloc (.cells #[.bool z.xSome, .int .i64 z.xFrom, .int .i64 z.xCheck, .int .i64 z.xTo, .int .i64 z.xTold, .int .i64 z.xHeard, .int .i64 z.xOther, .int .i64 z.xVowed] 39)).alloc (.cells #[.bool false, .int .i64 0, .int .i64 0, .int .i64 0, .int .i64 0, .int .i64 0, .int .i64 0, .int .i64 0] 39)) (w.heap.size + 1 + 1) 39 #[.bool false, .int .i64 0, .int .i64 0, .int .i64 0, .int .i64 0, .int .i64 0, .int .i64 0, .int .i64 0] := by simpa using Blk.new ((w.alloc (.cells #[.int .i64 c.xWho, .int .i64 c.xAt, .int .i64 c.xBy, .bool true] 38)).alloc (.cells #[.bool z.xSome, .int .i64 z.xFrom, .int .i64 z.xCheck, .int .i64 z.xTo, .int .i64 z.xTold, .int .i64 z.xHeard, .int .i64 z.xOther, .int .i64 z.xVowed] 39)) 39 #[.bool false, .int .i64 0, .int .i64 0, .int .i64 0, .int .i64 0, .int .i64 0, .int .i64 0, .int .i64 0]
      go_enter Tryz.func164, Tryz.ntmps164
      go_wp2_with fail
      refine (KF _).mono ?_
      rintro e w1 ⟨rfl, hb⟩
      replace X := X.keep hb
      replace Z := Z.keep hb
      replace R := R.keep hb
      replace B := B.trans (hb.mono B.size)
      clear hb
      have xa := X.at.1
      have za := Z.at.1
      have zb := Z.at.2
      have zl := Z.lt
      go_wp2_with fail
      clear xa za zb zl
      refine (KC _).mono ?_
      rintro e w2 ⟨rfl, hb⟩
      replace X := X.keep hb
      replace Z := Z.keep hb
      replace R := R.keep hb
      replace B := B.trans (hb.mono B.size)
      clear hb
      have xa := X.at.1
      have za := Z.at.1
      have zb := Z.at.2
      have zl := Z.lt
      go_wp2_with fail
      clear xa za zb zl
      refine (KT _).mono ?_
      rintro e w3 ⟨rfl, hb⟩
      replace X := X.keep hb
      replace Z := Z.keep hb
      replace R := R.keep hb
      replace B := B.trans (hb.mono B.size)
      clear hb
      have KU := fun V => impl_turned { c with xCry := true } q z.xHeard V hq hv hy
      dsimp only at KU
      have xa := X.at.1
      have za := Z.at.1
      have zb := Z.at.2
      have zl := Z.lt
      go_wp2_with fail
      clear xa za zb zl
      refine (KU _).mono ?_
      rintro e w4 ⟨rfl, hb⟩
      replace X := X.keep hb
      replace Z := Z.keep hb
      replace R := R.keep hb
      replace B := B.trans (hb.mono B.size)
      clear hb
      have xa := X.at.1
      have za := Z.at.1
      have zb := Z.at.2
      have zl := Z.lt
      have ra := R.at.1
      have rb := R.at.2
      have rl := R.lt
      have OO : ∀ V, Off [w.heap.size + 1, w.heap.size + 1 + 1] w4 V → Below w.heap.size w V := fun V O => B.trans (O.toBelow B.size (by simp; omega))
      go_wp2
      exact bodyPost_ret (v := .agg #[.bool z.xSome, .int .i64 z.xFrom, .int .i64 z.xCheck, .int .i64 z.xTo, .int .i64 z.xTold, .int .i64 ((z.xHeard + c.xBy) % q), .int .i64 z.xOther, .int .i64 z.xVowed]) (by simp [results, Tryz.results164, go_sem, ra]) rfl ⟨rfl, OO _ (((((((((((Off.refl _ _).setCell _ _ (by simp)).setCell _ _ (by simp)).setCell _ _ (by simp)).setCell _ _ (by simp)).setCell _ _ (by simp)).setCell _ _ (by simp)).setCell _ _ (by simp)).setCell _ _ (by simp)).setCell _ _ (by simp)))⟩
    · by_cases hF : c.xWho = z.xFrom
      · skip
        have hC : ¬ c.xWho = z.xCheck := fun h => hd1 (hF.symm.trans h)
        have e1 : qcells (claimZ c q z) = #[.bool z.xSome, .int .i64 z.xFrom, .int .i64 z.xCheck, .int .i64 z.xTo, .int .i64 z.xHeard, .int .i64 z.xHeard, .int .i64 z.xOther, .int .i64 z.xVowed] := by
          unfold qcells claimZ standV
          simp only []
          rw [if_pos ⟨hF, hc⟩, if_neg hT, if_neg (fun k => hC k.1)]
        rw [e1]
        clear e1
        rw [yes _ hF] at KF
        rw [no _ hC] at KC
        rw [no _ hT] at KT
        clear yes no
        rw [hc] at KF KC KT
        clear hc hd1 hd2 hd3
        clear hF hC hT
        have B : Below w.heap.size w (((w.alloc (.cells #[.int .i64 c.xWho, .int .i64 c.xAt, .int .i64 c.xBy, .bool true] 38)).alloc (.cells #[.bool z.xSome, .int .i64 z.xFrom, .int .i64 z.xCheck, .int .i64 z.xTo, .int .i64 z.xTold, .int .i64 z.xHeard, .int .i64 z.xOther, .int .i64 z.xVowed] 39)).alloc (.cells #[.bool false, .int .i64 0, .int .i64 0, .int .i64 0, .int .i64 0, .int .i64 0, .int .i64 0, .int .i64 0] 39)) := (by repeat (first | exact Below.refl _ _ | refine Below.drew ?_ | refine below_drewN ?_ _ | refine Below.setCell ?_ (by first | omega | (simp; done) | (simp; omega)) _ | refine Below.alloc ?_ (by first | omega | (simp; done) | (simp; omega)) _))
        have X : Blk (((w.alloc (.cells #[.int .i64 c.xWho, .int .i64 c.xAt, .int .i64 c.xBy, .bool true] 38)).alloc (.cells #[.bool z.xSome, .int .i64 z.xFrom, .int .i64 z.xCheck, .int .i64 z.xTo, .int .i64 z.xTold, .int .i64 z.xHeard, .int .i64 z.xOther, .int .i64 z.xVowed] 39)).alloc (.cells #[.bool false, .int .i64 0, .int .i64 0, .int .i64 0, .int .i64 0, .int .i64 0, .int .i64 0, .int .i64 0] 39)) w.heap.size 38 #[.int .i64 c.xWho, .int .i64 c.xAt, .int .i64 c.xBy, .bool true] := ((Blk.new w _ _).alloc _).alloc _
        have Z : Blk (((w.alloc (.cells #[.int .i64 c.xWho, .int .i64 c.xAt, .int .i64 c.xBy, .bool true] 38)).alloc (.cells #[.bool z.xSome, .int .i64 z.xFrom, .int .i64 z.xCheck, .int .i64 z.xTo, .int .i64 z.xTold, .int .i64 z.xHeard, .int .i64 z.xOther, .int .i64 z.xVowed] 39)).alloc (.cells #[.bool false, .int .i64 0, .int .i64 0, .int .i64 0, .int .i64 0, .int .i64 0, .int .i64 0, .int .i64 0] 39)) (w.heap.size + 1) 39 #[.bool z.xSome, .int .i64 z.xFrom, .int .i64 z.xCheck, .int .i64 z.xTo, .int .i64 z.xTold, .int .i64 z.xHeard, .int .i64 z.xOther, .int .i64 z.xVowed] := by simpa using (Blk.new (w.alloc (.cells #[.int .i64 c.xWho, .int .i64 c.xAt, .int .i64 c.xBy, .bool true] 38)) 39 #[.bool z.xSome, .int .i64 z.xFrom, .int .i64 z.xCheck, .int .i64 z.xTo, .int .i64 z.xTold, .int .i64 z.xHeard, .int .i64 z.xOther, .int .i64 z.xVowed]).alloc (.cells #[.bool false, .int .i64 0, .int .i64 0, .int .i64 0, .int .i64 0, .int .i64 0, .int .i64 0, .int .i64 0] 39)
        have R : Blk (((w.alloc (.cells #[.int .i64 c.xWho, .int .i64 c.xAt, .int .i64 c.xBy, .bool true] 38)).alloc (.cells #[.bool z.xSome, .int .i64 z.xFrom, .int .i64 z.xCheck, .int .i64 z.xTo, .int .i64 z.xTold, .int .i64 z.xHeard, .int .i64 z.xOther, .int .i64 z.xVowed] 39)).alloc (.cells #[.bool false, .int .i64 0, .int .i64 0, .int .i64 0, .int .i64 0, .int .i64 0, .int .i64 0, .int .i64 0] 39)) (w.heap.size + 1 + 1) 39 #[.bool false, .int .i64 0, .int .i64 0, .int .i64 0, .int .i64 0, .int .i64 0, .int .i64 0, .int .i64 0] := by simpa using Blk.new ((w.alloc (.cells #[.int .i64 c.xWho, .int .i64 c.xAt, .int .i64 c.xBy, .bool true] 38)).alloc (.cells #[.bool z.xSome, .int .i64 z.xFrom, .int .i64 z.xCheck, .int .i64 z.xTo, .int .i64 z.xTold, .int .i64 z.xHeard, .int .i64 z.xOther, .int .i64 z.xVowed] 39)) 39 #[.bool false, .int .i64 0, .int .i64 0, .int .i64 0, .int .i64 0, .int .i64 0, .int .i64 0, .int .i64 0]
        go_enter Tryz.func164, Tryz.ntmps164
        go_wp2_with fail
        refine (KF _).mono ?_
        rintro e w1 ⟨rfl, hb⟩
        replace X := X.keep hb
        replace Z := Z.keep hb
        replace R := R.keep hb
        replace B := B.trans (hb.mono B.size)
        clear hb
        have xa := X.at.1
        have za := Z.at.1
        have zb := Z.at.2
        have zl := Z.lt
        go_wp2_with fail
        clear xa za zb zl
        have O : Off [w.heap.size + 1] w1 (w1.setCell ⟨w.heap.size + 1, 4, none⟩ (.int .i64 z.xHeard)) := (Off.refl _ _).setCell _ _ (by simp)
        refine Calls.at (F := fun V => Blk V w.heap.size 38 #[.int .i64 c.xWho, .int .i64 c.xAt, .int .i64 c.xBy, .bool true] ∧ Blk V (w.heap.size + 1) 39 #[.bool z.xSome, .int .i64 z.xFrom, .int .i64 z.xCheck, .int .i64 z.xTo, .int .i64 z.xHeard, .int .i64 z.xHeard, .int .i64 z.xOther, .int .i64 z.xVowed] ∧ Blk V (w.heap.size + 1 + 1) 39 #[.bool false, .int .i64 0, .int .i64 0, .int .i64 0, .int .i64 0, .int .i64 0, .int .i64 0, .int .i64 0] ∧ Below w.heap.size w V) ⟨X.off O (by simp), Blk.of_eq (Z.set 4 _) (by simp), R.off O (by simp), B.trans (O.toBelow B.size (by simp))⟩ ?_
        clear X Z R B O
        rintro v2 ⟨X, Z, R, B⟩
        refine (KC _).mono ?_
        rintro e w2 ⟨rfl, hb⟩
        replace X := X.keep hb
        replace Z := Z.keep hb
        replace R := R.keep hb
        replace B := B.trans (hb.mono B.size)
        clear hb
        have xa := X.at.1
        have za := Z.at.1
        have zb := Z.at.2
        have zl := Z.lt
        go_wp2_with fail
        clear xa za zb zl
        refine (KT _).mono ?_
        rintro e w3 ⟨rfl, hb⟩
        replace X := X.keep hb
        replace Z := Z.keep hb
        replace R := R.keep hb
        replace B := B.trans (hb.mono B.size)
        clear hb
        have xa := X.at.1
        have za := Z.at.1
        have zb := Z.at.2
        have zl := Z.lt
        have ra := R.at.1
        have rb := R.at.2
        have rl := R.lt
        have OO : ∀ V, Off [w.heap.size + 1, w.heap.size + 1 + 1] w3 V → Below w.heap.size w V := fun V O => B.trans (O.toBelow B.size (by simp; omega))
        go_wp2
        exact bodyPost_ret (v := .agg #[.bool z.xSome, .int .i64 z.xFrom, .int .i64 z.xCheck, .int .i64 z.xTo, .int .i64 z.xHeard, .int .i64 z.xHeard, .int .i64 z.xOther, .int .i64 z.xVowed]) (by simp [results, Tryz.results164, go_sem, ra]) rfl ⟨rfl, OO _ ((((((((((Off.refl _ _).setCell _ _ (by simp)).setCell _ _ (by simp)).setCell _ _ (by simp)).setCell _ _ (by simp)).setCell _ _ (by simp)).setCell _ _ (by simp)).setCell _ _ (by simp)).setCell _ _ (by simp)))⟩
      · by_cases hC : c.xWho = z.xCheck
        · skip
          have e1 : qcells (claimZ c q z) = #[.bool z.xSome, .int .i64 z.xFrom, .int .i64 z.xCheck, .int .i64 z.xTo, .int .i64 z.xTold, .int .i64 z.xHeard, .int .i64 z.xOther, .int .i64 z.xOther] := by
            unfold qcells claimZ standV
            simp only []
            rw [if_neg (fun k => hF k.1), if_neg hT, if_pos ⟨hC, hc⟩]
          rw [e1]
          clear e1
          rw [no _ hF] at KF
          rw [yes _ hC] at KC
          rw [no _ hT] at KT
          clear yes no
          rw [hc] at KF KC KT
          clear hc hd1 hd2 hd3
          clear hF hC hT
          have B : Below w.heap.size w (((w.alloc (.cells #[.int .i64 c.xWho, .int .i64 c.xAt, .int .i64 c.xBy, .bool true] 38)).alloc (.cells #[.bool z.xSome, .int .i64 z.xFrom, .int .i64 z.xCheck, .int .i64 z.xTo, .int .i64 z.xTold, .int .i64 z.xHeard, .int .i64 z.xOther, .int .i64 z.xVowed] 39)).alloc (.cells #[.bool false, .int .i64 0, .int .i64 0, .int .i64 0, .int .i64 0, .int .i64 0, .int .i64 0, .int .i64 0] 39)) := (by repeat (first | exact Below.refl _ _ | refine Below.drew ?_ | refine below_drewN ?_ _ | refine Below.setCell ?_ (by first | omega | (simp; done) | (simp; omega)) _ | refine Below.alloc ?_ (by first | omega | (simp; done) | (simp; omega)) _))
          have X : Blk (((w.alloc (.cells #[.int .i64 c.xWho, .int .i64 c.xAt, .int .i64 c.xBy, .bool true] 38)).alloc (.cells #[.bool z.xSome, .int .i64 z.xFrom, .int .i64 z.xCheck, .int .i64 z.xTo, .int .i64 z.xTold, .int .i64 z.xHeard, .int .i64 z.xOther, .int .i64 z.xVowed] 39)).alloc (.cells #[.bool false, .int .i64 0, .int .i64 0, .int .i64 0, .int .i64 0, .int .i64 0, .int .i64 0, .int .i64 0] 39)) w.heap.size 38 #[.int .i64 c.xWho, .int .i64 c.xAt, .int .i64 c.xBy, .bool true] := ((Blk.new w _ _).alloc _).alloc _
          have Z : Blk (((w.alloc (.cells #[.int .i64 c.xWho, .int .i64 c.xAt, .int .i64 c.xBy, .bool true] 38)).alloc (.cells #[.bool z.xSome, .int .i64 z.xFrom, .int .i64 z.xCheck, .int .i64 z.xTo, .int .i64 z.xTold, .int .i64 z.xHeard, .int .i64 z.xOther, .int .i64 z.xVowed] 39)).alloc (.cells #[.bool false, .int .i64 0, .int .i64 0, .int .i64 0, .int .i64 0, .int .i64 0, .int .i64 0, .int .i64 0] 39)) (w.heap.size + 1) 39 #[.bool z.xSome, .int .i64 z.xFrom, .int .i64 z.xCheck, .int .i64 z.xTo, .int .i64 z.xTold, .int .i64 z.xHeard, .int .i64 z.xOther, .int .i64 z.xVowed] := by simpa using (Blk.new (w.alloc (.cells #[.int .i64 c.xWho, .int .i64 c.xAt, .int .i64 c.xBy, .bool true] 38)) 39 #[.bool z.xSome, .int .i64 z.xFrom, .int .i64 z.xCheck, .int .i64 z.xTo, .int .i64 z.xTold, .int .i64 z.xHeard, .int .i64 z.xOther, .int .i64 z.xVowed]).alloc (.cells #[.bool false, .int .i64 0, .int .i64 0, .int .i64 0, .int .i64 0, .int .i64 0, .int .i64 0, .int .i64 0] 39)
          have R : Blk (((w.alloc (.cells #[.int .i64 c.xWho, .int .i64 c.xAt, .int .i64 c.xBy, .bool true] 38)).alloc (.cells #[.bool z.xSome, .int .i64 z.xFrom, .int .i64 z.xCheck, .int .i64 z.xTo, .int .i64 z.xTold, .int .i64 z.xHeard, .int .i64 z.xOther, .int .i64 z.xVowed] 39)).alloc (.cells #[.bool false, .int .i64 0, .int .i64 0, .int .i64 0, .int .i64 0, .int .i64 0, .int .i64 0, .int .i64 0] 39)) (w.heap.size + 1 + 1) 39 #[.bool false, .int .i64 0, .int .i64 0, .int .i64 0, .int .i64 0, .int .i64 0, .int .i64 0, .int .i64 0] := by simpa using Blk.new ((w.alloc (.cells #[.int .i64 c.xWho, .int .i64 c.xAt, .int .i64 c.xBy, .bool true] 38)).alloc (.cells #[.bool z.xSome, .int .i64 z.xFrom, .int .i64 z.xCheck, .int .i64 z.xTo, .int .i64 z.xTold, .int .i64 z.xHeard, .int .i64 z.xOther, .int .i64 z.xVowed] 39)) 39 #[.bool false, .int .i64 0, .int .i64 0, .int .i64 0, .int .i64 0, .int .i64 0, .int .i64 0, .int .i64 0]
          go_enter Tryz.func164, Tryz.ntmps164
          go_wp2_with fail
          refine (KF _).mono ?_
          rintro e w1 ⟨rfl, hb⟩
          replace X := X.keep hb
          replace Z := Z.keep hb
          replace R := R.keep hb
          replace B := B.trans (hb.mono B.size)
          clear hb
          have xa := X.at.1
          have za := Z.at.1
          have zb := Z.at.2
          have zl := Z.lt
          go_wp2_with fail
          clear xa za zb zl
          refine (KC _).mono ?_
          rintro e w2 ⟨rfl, hb⟩
          replace X := X.keep hb
          replace Z := Z.keep hb
          replace R := R.keep hb
          replace B := B.trans (hb.mono B.size)
          clear hb
          have xa := X.at.1
          have za := Z.at.1
          have zb := Z.at.2
          have zl := Z.lt
          go_wp2_with fail
          clear xa za zb zl
          have O : Off [w.heap.size + 1] w2 (w2.setCell ⟨w.heap.size + 1, 7, none⟩ (.int .i64 z.xOther)) := (Off.refl _ _).setCell _ _ (by simp)
          refine Calls.at (F := fun V => Blk V w.heap.size 38 #[.int .i64 c.xWho, .int .i64 c.xAt, .int .i64 c.xBy, .bool true] ∧ Blk V (w.heap.size + 1) 39 #[.bool z.xSome, .int .i64 z.xFrom, .int .i64 z.xCheck, .int .i64 z.xTo, .int .i64 z.xTold, .int .i64 z.xHeard, .int .i64 z.xOther, .int .i64 z.xOther] ∧ Blk V (w.heap.size + 1 + 1) 39 #[.bool false, .int .i64 0, .int .i64 0, .int .i64 0, .int .i64 0, .int .i64 0, .int .i64 0, .int .i64 0] ∧ Below w.heap.size w V) ⟨X.off O (by simp), Blk.of_eq (Z.set 7 _) (by simp), R.off O (by simp), B.trans (O.toBelow B.size (by simp))⟩ ?_
          clear X Z R B O
          rintro v3 ⟨X, Z, R, B⟩
          refine (KT _).mono ?_
          rintro e w3 ⟨rfl, hb⟩
          replace X := X.keep hb
          replace Z := Z.keep hb
          replace R := R.keep hb
          replace B := B.trans (hb.mono B.size)
          clear hb
          have xa := X.at.1
          have za := Z.at.1
          have zb := Z.at.2
          have zl := Z.lt
          have ra := R.at.1
          have rb := R.at.2
          have rl := R.lt
          have OO : ∀ V, Off [w.heap.size + 1, w.heap.size + 1 + 1] w3 V → Below w.heap.size w V := fun V O => B.trans (O.toBelow B.size (by simp; omega))
          go_wp2
          exact bodyPost_ret (v := .agg #[.bool z.xSome, .int .i64 z.xFrom, .int .i64 z.xCheck, .int .i64 z.xTo, .int .i64 z.xTold, .int .i64 z.xHeard, .int .i64 z.xOther, .int .i64 z.xOther]) (by simp [results, Tryz.results164, go_sem, ra]) rfl ⟨rfl, OO _ ((((((((((Off.refl _ _).setCell _ _ (by simp)).setCell _ _ (by simp)).setCell _ _ (by simp)).setCell _ _ (by simp)).setCell _ _ (by simp)).setCell _ _ (by simp)).setCell _ _ (by simp)).setCell _ _ (by simp)))⟩
        · skip
          have e1 : qcells (claimZ c q z) = #[.bool z.xSome, .int .i64 z.xFrom, .int .i64 z.xCheck, .int .i64 z.xTo, .int .i64 z.xTold, .int .i64 z.xHeard, .int .i64 z.xOther, .int .i64 z.xVowed] := by
            unfold qcells claimZ standV
            simp only []
            rw [if_neg (fun k => hF k.1), if_neg hT, if_neg (fun k => hC k.1)]
          rw [e1]
          clear e1
          rw [no _ hF] at KF
          rw [no _ hC] at KC
          rw [no _ hT] at KT
          clear yes no
          rw [hc] at KF KC KT
          clear hc hd1 hd2 hd3
          clear hF hC hT
          have B : Below w.heap.size w (((w.alloc (.cells #[.int .i64 c.xWho, .int .i64 c.xAt, .int .i64 c.xBy, .bool true] 38)).alloc (.cells #[.bool z.xSome, .int .i64 z.xFrom, .int .i64 z.xCheck, .int .i64 z.xTo, .int .i64 z.xTold, .int .i64 z.xHeard, .int .i64 z.xOther, .int .i64 z.xVowed] 39)).alloc (.cells #[.bool false, .int .i64 0, .int .i64 0, .int .i64 0, .int .i64 0, .int .i64 0, .int .i64 0, .int .i64 0] 39)) := (by repeat (first | exact Below.refl _ _ | refine Below.drew ?_ | refine below_drewN ?_ _ | refine Below.setCell ?_ (by first | omega | (simp; done) | (simp; omega)) _ | refine Below.alloc ?_ (by first | omega | (simp; done) | (simp; omega)) _))
          have X : Blk (((w.alloc (.cells #[.int .i64 c.xWho, .int .i64 c.xAt, .int .i64 c.xBy, .bool true] 38)).alloc (.cells #[.bool z.xSome, .int .i64 z.xFrom, .int .i64 z.xCheck, .int .i64 z.xTo, .int .i64 z.xTold, .int .i64 z.xHeard, .int .i64 z.xOther, .int .i64 z.xVowed] 39)).alloc (.cells #[.bool false, .int .i64 0, .int .i64 0, .int .i64 0, .int .i64 0, .int .i64 0, .int .i64 0, .int .i64 0] 39)) w.heap.size 38 #[.int .i64 c.xWho, .int .i64 c.xAt, .int .i64 c.xBy, .bool true] := ((Blk.new w _ _).alloc _).alloc _
          have Z : Blk (((w.alloc (.cells #[.int .i64 c.xWho, .int .i64 c.xAt, .int .i64 c.xBy, .bool true] 38)).alloc (.cells #[.bool z.xSome, .int .i64 z.xFrom, .int .i64 z.xCheck, .int .i64 z.xTo, .int .i64 z.xTold, .int .i64 z.xHeard, .int .i64 z.xOther, .int .i64 z.xVowed] 39)).alloc (.cells #[.bool false, .int .i64 0, .int .i64 0, .int .i64 0, .int .i64 0, .int .i64 0, .int .i64 0, .int .i64 0] 39)) (w.heap.size + 1) 39 #[.bool z.xSome, .int .i64 z.xFrom, .int .i64 z.xCheck, .int .i64 z.xTo, .int .i64 z.xTold, .int .i64 z.xHeard, .int .i64 z.xOther, .int .i64 z.xVowed] := by simpa using (Blk.new (w.alloc (.cells #[.int .i64 c.xWho, .int .i64 c.xAt, .int .i64 c.xBy, .bool true] 38)) 39 #[.bool z.xSome, .int .i64 z.xFrom, .int .i64 z.xCheck, .int .i64 z.xTo, .int .i64 z.xTold, .int .i64 z.xHeard, .int .i64 z.xOther, .int .i64 z.xVowed]).alloc (.cells #[.bool false, .int .i64 0, .int .i64 0, .int .i64 0, .int .i64 0, .int .i64 0, .int .i64 0, .int .i64 0] 39)
          have R : Blk (((w.alloc (.cells #[.int .i64 c.xWho, .int .i64 c.xAt, .int .i64 c.xBy, .bool true] 38)).alloc (.cells #[.bool z.xSome, .int .i64 z.xFrom, .int .i64 z.xCheck, .int .i64 z.xTo, .int .i64 z.xTold, .int .i64 z.xHeard, .int .i64 z.xOther, .int .i64 z.xVowed] 39)).alloc (.cells #[.bool false, .int .i64 0, .int .i64 0, .int .i64 0, .int .i64 0, .int .i64 0, .int .i64 0, .int .i64 0] 39)) (w.heap.size + 1 + 1) 39 #[.bool false, .int .i64 0, .int .i64 0, .int .i64 0, .int .i64 0, .int .i64 0, .int .i64 0, .int .i64 0] := by simpa using Blk.new ((w.alloc (.cells #[.int .i64 c.xWho, .int .i64 c.xAt, .int .i64 c.xBy, .bool true] 38)).alloc (.cells #[.bool z.xSome, .int .i64 z.xFrom, .int .i64 z.xCheck, .int .i64 z.xTo, .int .i64 z.xTold, .int .i64 z.xHeard, .int .i64 z.xOther, .int .i64 z.xVowed] 39)) 39 #[.bool false, .int .i64 0, .int .i64 0, .int .i64 0, .int .i64 0, .int .i64 0, .int .i64 0, .int .i64 0]
          go_enter Tryz.func164, Tryz.ntmps164
          go_wp2_with fail
          refine (KF _).mono ?_
          rintro e w1 ⟨rfl, hb⟩
          replace X := X.keep hb
          replace Z := Z.keep hb
          replace R := R.keep hb
          replace B := B.trans (hb.mono B.size)
          clear hb
          have xa := X.at.1
          have za := Z.at.1
          have zb := Z.at.2
          have zl := Z.lt
          go_wp2_with fail
          clear xa za zb zl
          refine (KC _).mono ?_
          rintro e w2 ⟨rfl, hb⟩
          replace X := X.keep hb
          replace Z := Z.keep hb
          replace R := R.keep hb
          replace B := B.trans (hb.mono B.size)
          clear hb
          have xa := X.at.1
          have za := Z.at.1
          have zb := Z.at.2
          have zl := Z.lt
          go_wp2_with fail
          clear xa za zb zl
          refine (KT _).mono ?_
          rintro e w3 ⟨rfl, hb⟩
          replace X := X.keep hb
          replace Z := Z.keep hb
          replace R := R.keep hb
          replace B := B.trans (hb.mono B.size)
          clear hb
          have xa := X.at.1
          have za := Z.at.1
          have zb := Z.at.2
          have zl := Z.lt
          have ra := R.at.1
          have rb := R.at.2
          have rl := R.lt
          have OO : ∀ V, Off [w.heap.size + 1, w.heap.size + 1 + 1] w3 V → Below w.heap.size w V := fun V O => B.trans (O.toBelow B.size (by simp; omega))
          go_wp2
          exact bodyPost_ret (v := .agg #[.bool z.xSome, .int .i64 z.xFrom, .int .i64 z.xCheck, .int .i64 z.xTo, .int .i64 z.xTold, .int .i64 z.xHeard, .int .i64 z.xOther, .int .i64 z.xVowed]) (by simp [results, Tryz.results164, go_sem, ra]) rfl ⟨rfl, OO _ ((((((((((Off.refl _ _).setCell _ _ (by simp)).setCell _ _ (by simp)).setCell _ _ (by simp)).setCell _ _ (by simp)).setCell _ _ (by simp)).setCell _ _ (by simp)).setCell _ _ (by simp)).setCell _ _ (by simp)))⟩
end Go.Proofs.YtepobckhfodngaoGreat
