/-
  Contracts of chapter 2's program: faults of tapes, and single words.
-/
import Derived.Test.YtidmojkmcfgmfalTapeS
namespace Go.Proofs.Ytidmojkmcfgmfal
open Go.ChangeShapes Go.WideShapes Go.ChangeAt Go.RowKit
set_option linter.unusedVariables false

end Go.Proofs.Ytidmojkmcfgmfal
