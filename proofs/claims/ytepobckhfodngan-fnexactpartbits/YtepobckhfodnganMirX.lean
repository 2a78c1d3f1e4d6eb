/-
  Contracts of chapter 3 of the program: views that are put together part by part: differences.
-/
import Derived.Test.YtepobckhfodnganMirW
import Derived.Deep.RegionWith
namespace Go.Proofs.Ytepobckhfodngan
open Go.ChangeShapes Go.WideShapes Go.ChangeAt Go.RowKit
set_option linter.unusedVariables false

end Go.Proofs.Ytepobckhfodngan
