/-
  Draws of chapter 4: what a net is made of.
-/
import Derived.Test.YtepobckhfodngacGreatDraw2
import Derived.Test.YtepobckhfodngacGreatDraw4
import Derived.Test.YtepobckhfodngacGreatJnX
namespace Go.Proofs.YtepobckhfodngacGreat
open Go.ChangeShapes Go.WideShapes Go.ChangeAt Go.RowKit
set_option linter.unusedVariables false

end Go.Proofs.YtepobckhfodngacGreat
