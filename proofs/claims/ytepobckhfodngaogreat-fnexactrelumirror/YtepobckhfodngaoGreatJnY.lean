/-
  Contracts of chapter 4: joint messages, in the program.
-/
import Derived.Test.YtepobckhfodngaoGreatJnV
import Derived.Test.YtepobckhfodngaoGreatJnW
import Derived.Test.YtepobckhfodngaoGreatJnQ
import Derived.Test.YtepobckhfodngaoGreatGrow
import Derived.Test.YtepobckhfodngaoGreatCopyT
namespace Go.Proofs.YtepobckhfodngaoGreat
open Go.ChangeShapes Go.WideShapes Go.ChangeAt Go.RowKit
set_option linter.unusedVariables false

/-- a struct is laid into the last cells of a block -/
theorem wpList_store_tail {P : Program} {ops : Array Oper} {rest : List Oper} {op : Oper} {a : Act} {w : World} {Q : Exit → Act → World → Prop} (hgd : op.guard = none) (T : TypeId) (x y : Operand) (ho : op.op = .store T x y)
    (b o : Nat) (cs : Array Value) (hx : a.eval x = .pointer (some ⟨b, o, none⟩)) (hy : a.eval y = .agg cs) {cs0 : Array Value} {T' : TypeId} (h : Blk w b T' cs0) (hs : cs0.size = o + cs.size)
    (hi : (P.info? T).map (·.size) = some cs.size) (h1 : cs.all (·.oneCell') = true)
    (k : ∀ w', Blk w' b T' (cs0.toList.take o ++ cs.toList).toArray → Off [b] w w' → wpList P ops Q rest (a.put op.dst undef) w') : wpList P ops Q (op :: rest) a w :=
  wpList_store_mid hgd T x y ho b o cs hx hy (fun j hj => ⟨by rw [h.at.1]; simp; omega, h.at.2 _⟩) hi h1 (k _ (Blk.setCells cs.toList o w cs0 h (by simpa using hs)) (Off.setCells _ _ _))
def uT (x : MNet) (q fm a : Int) : Int := tellV x.xCheat q x.xSent fm a
def vT (x : MNet) (q ck b : Int) : Int := tellV x.xCheat q (x.xSent + 1) ck b
def quarN (x : MNet) (q fm ck tt a b : Int) : MQuarrel := if uT x q fm a = vT x q ck b ∧ cryB x.xCheat tt x.xSent = false then x.xQuarrel else claimZ x.xCheat q ⟨true, fm, ck, tt, a, uT x q fm a, vT x q ck b, b⟩
def sentN (x : MNet) (q fm ck tt a b : Int) : MNet := { x with xSent := x.xSent + 2, xHeard := x.xHeard.set tt.toNat (x.xHeard.getD tt.toNat [] ++ [uT x q fm a, vT x q ck b]), xQuarrel := quarN x q fm ck tt a b }
def sendOk (q fm ck tt a b : Int) : Prop := (q = 2 ∨ q = 256) ∧ Three fm ck tt ∧ (0 ≤ a ∧ a < q) ∧ (0 ≤ b ∧ b < q)
instance (q fm ck tt a b : Int) : Decidable (sendOk q fm ck tt a b) := by unfold sendOk; infer_instance
def sendR (x : MNet) (q fm ck tt a b : Int) : MNetResult := if netC x = 0 then (if x.xQuarrel.xSome = true then badN 6 else if sendOk q fm ck tt a b then ⟨0, uT x q fm a, sentN x q fm ck tt a b⟩ else badN 3) else badN (netC x)
theorem sendR_fault {x : MNet} (q fm ck tt a b : Int) (h : netC x ≠ 0) : sendR x q fm ck tt a b = badN (netC x) := if_neg h
theorem sendR_quarrel {x : MNet} (q fm ck tt a b : Int) (h : netC x = 0) (k : x.xQuarrel.xSome = true) : sendR x q fm ck tt a b = badN 6 := by unfold sendR; rw [if_pos h, if_pos k]
theorem sendR_out {x : MNet} {q fm ck tt a b : Int} (h : netC x = 0) (k : ¬ x.xQuarrel.xSome = true) (l : ¬ sendOk q fm ck tt a b) : sendR x q fm ck tt a b = badN 3 := by unfold sendR; rw [if_pos h, if_neg k, if_neg l]
theorem sendR_in {x : MNet} {q fm ck tt a b : Int} (h : netC x = 0) (k : ¬ x.xQuarrel.xSome = true) (l : sendOk q fm ck tt a b) : sendR x q fm ck tt a b = ⟨0, uT x q fm a, sentN x q fm ck tt a b⟩ := by unfold sendR; rw [if_pos h, if_neg k, if_pos l]
theorem sl_set_le : ∀ (xss : List (List Int)) (j : Nat) (ys : List Int), sl (xss.set j ys) ≤ sl xss + ys.length
  | [], _, _ => by simp [sl]
  | x :: r, 0, ys => by simp [sl]; omega
  | x :: r, j + 1, ys => by have := sl_set_le r j ys; simp only [List.set_cons_succ, sl]; omega
theorem sendR_cnt (x : MNet) (q fm ck tt a b : Int) (h : totNet x ≤ 1048576) : cntNetResult (sendR x q fm ck tt a b) ≤ 268435456 := by
  have h1 := cntNet_le x
  unfold sendR
  split
  · split
    · show 0 + 0 + 0 ≤ _; omega
    · split
      · show cntTape x.xTape + x.xUsed.length + sl (x.xHeard.set tt.toNat (x.xHeard.getD tt.toNat [] ++ [uT x q fm a, vT x q ck b])) ≤ _
        have h2 := sl_set_le x.xHeard tt.toNat (x.xHeard.getD tt.toNat [] ++ [uT x q fm a, vT x q ck b])
        have h3 : cntNet x = cntTape x.xTape + x.xUsed.length + sl x.xHeard := rfl
        have h4 : (x.xHeard.getD tt.toNat []).length ≤ sl x.xHeard := by
          by_cases hk : tt.toNat < x.xHeard.length
          · exact row_le x.xHeard _ hk
          · rw [show x.xHeard.getD tt.toNat [] = [] by simp [List.getD_eq_getElem?_getD, List.getElem?_eq_none (Nat.le_of_not_lt hk)]]; simp
        rw [List.length_append] at h2
        simp only [List.length_cons, List.length_nil] at h2
        omega
      · show 0 + 0 + 0 ≤ _; omega
  · show 0 + 0 + 0 ≤ _; omega
end Go.Proofs.YtepobckhfodngaoGreat
