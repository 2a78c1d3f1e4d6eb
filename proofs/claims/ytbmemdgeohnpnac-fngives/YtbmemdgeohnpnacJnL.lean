/-
  Contracts of chapter 4: a joint message on a copied net: in the model.
-/
import Derived.Test.YtbmemdgeohnpnacJnM
import Derived.Deep.QuietTactic
import Derived.BigQuiet
namespace Go.Proofs.Ytbmemdgeohnpnac
open Go.ChangeShapes Go.WideShapes Go.ChangeAt Go.RowKit
set_option linter.unusedVariables false

theorem Off.later {bs cs : List Nat} {w w1 w2 : World} (h : Off bs w w1) (k : Off cs w1 w2) (hc : ∀ y ∈ cs, w.heap.size ≤ y) : Off bs w w2 :=
  ⟨k.os.trans h.os, k.tape.trans h.tape, k.output.trans h.output, Nat.le_trans h.size k.size, fun i hi hn => (k.block i (Nat.lt_of_lt_of_le hi h.size) (fun hm => by have := hc i hm; omega)).trans (h.block i hi hn)⟩
theorem Blk.drewN {w : World} {b : Nat} {T : TypeId} {cs : Array Value} (h : Blk w b T cs) (n : Nat) : Blk (w.drewN n) b T cs := h.keep (below_drewN (Below.refl _ _) n)
end Go.Proofs.Ytbmemdgeohnpnac
