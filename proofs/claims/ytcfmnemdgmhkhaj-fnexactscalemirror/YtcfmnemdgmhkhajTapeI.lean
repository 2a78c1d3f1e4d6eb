/-
  Contracts of chapter 2's program: faults of tapes, and single words.
-/
import Derived.Test.YtcfmnemdgmhkhajTapeS
namespace Go.Proofs.Ytcfmnemdgmhkhaj
open Go.ChangeShapes Go.WideShapes Go.ChangeAt Go.RowKit
set_option linter.unusedVariables false

end Go.Proofs.Ytcfmnemdgmhkhaj
