/-
  Contracts of chapter 2's program: faults of tapes, and single words.
-/
import Derived.Test.YtcfmnemdgmhkhabTapeS
namespace Go.Proofs.Ytcfmnemdgmhkhab
open Go.ChangeShapes Go.WideShapes Go.ChangeAt Go.RowKit
set_option linter.unusedVariables false

end Go.Proofs.Ytcfmnemdgmhkhab
