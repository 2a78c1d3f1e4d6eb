/-
  Contract of chapter 5's model: is each one of a list an element of q.
-/
import Derived.Test.YtepobckhfodngaoGreatMirS
namespace Go.Proofs.YtepobckhfodngaoGreat
open Go.ChangeShapes Go.WideShapes Go.ChangeAt Go.RowKit
set_option linter.unusedVariables false
end Go.Proofs.YtepobckhfodngaoGreat
