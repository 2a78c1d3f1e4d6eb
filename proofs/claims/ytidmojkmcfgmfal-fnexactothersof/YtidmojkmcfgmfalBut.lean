/-
  Who is a party, or nobody: in the program and in its model.
-/
import Derived.Test.YtidmojkmcfgmfalTapeW
namespace Go.Proofs.Ytidmojkmcfgmfal
open Go.ChangeShapes Go.WideShapes Go.ChangeAt Go.RowKit
set_option linter.unusedVariables false

def isBut (but : Int) : Bool := decide (but = -1 ∨ (0 ≤ but ∧ but ≤ 3))
end Go.Proofs.Ytidmojkmcfgmfal
