/-
  Contracts of chapter 4: a joint message on a copied net: in the program and in its model.
-/
import Derived.Test.YtbmemdgeohnpnacJnY
import Derived.Test.YtbmemdgeohnpnacWhole
import Derived.Deep.CutRange
import Derived.Deep.RegionHeld3
namespace Go.Proofs.Ytbmemdgeohnpnac
open Go.ChangeShapes Go.WideShapes Go.ChangeAt Go.RowKit
set_option linter.unusedVariables false

/-- what a joint message leaves of a copied net -/
def TellPost (w w' : World) (b0 : Nat) (x : MNet) (q0 q1 : Option Addr) (gH d0 d1 d2 : Nat) (b2 : List Nat) (q fm ck : Int) (l : Nat) (a b : Int) : Prop :=
  ∃ cs, Blk w' b0 33 #[.slice q0 x.xTape.length d0, .slice q1 x.xUsed.length d1, .int .i64 (x.xSent + 2), .slice (some ⟨gH, 0, none⟩) x.xHeard.length d2, .int .i64 x.xCheat.xWho, .int .i64 x.xCheat.xAt, .int .i64 x.xCheat.xBy, .bool x.xCheat.xCry, .bool (quarN x q fm ck l a b).xSome, .int .i64 (quarN x q fm ck l a b).xFrom, .int .i64 (quarN x q fm ck l a b).xCheck, .int .i64 (quarN x q fm ck l a b).xTo, .int .i64 (quarN x q fm ck l a b).xTold, .int .i64 (quarN x q fm ck l a b).xHeard, .int .i64 (quarN x q fm ck l a b).xOther, .int .i64 (quarN x q fm ck l a b).xVowed] ∧ MatT w' (.slice (some ⟨gH, 0, none⟩) x.xHeard.length d2) (x.xHeard.set l (x.xHeard.getD l [] ++ [uT x q fm a, vT x q ck b])) cs ∧ (∀ y ∈ cs, y ∈ b2 ∨ w.heap.size ≤ y) ∧ Off (b0 :: b2) w w'
end Go.Proofs.Ytbmemdgeohnpnac
