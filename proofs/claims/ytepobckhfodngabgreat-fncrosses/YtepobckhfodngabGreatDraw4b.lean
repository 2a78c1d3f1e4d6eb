/-
  Draws of chapter 4: what a net is made of.
-/
import Derived.Test.YtepobckhfodngabGreatDraw2
import Derived.Test.YtepobckhfodngabGreatDraw4
import Derived.Test.YtepobckhfodngabGreatJnX
namespace Go.Proofs.YtepobckhfodngabGreat
open Go.ChangeShapes Go.WideShapes Go.ChangeAt Go.RowKit
set_option linter.unusedVariables false

end Go.Proofs.YtepobckhfodngabGreat
