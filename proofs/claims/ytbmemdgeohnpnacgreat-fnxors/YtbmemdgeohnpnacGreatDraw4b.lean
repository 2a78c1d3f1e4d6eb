/-
  Draws of chapter 4: what a net is made of.
-/
import Derived.Test.YtbmemdgeohnpnacGreatDraw2
import Derived.Test.YtbmemdgeohnpnacGreatDraw4
import Derived.Test.YtbmemdgeohnpnacGreatJnX
namespace Go.Proofs.YtbmemdgeohnpnacGreat
open Go.ChangeShapes Go.WideShapes Go.ChangeAt Go.RowKit
set_option linter.unusedVariables false

end Go.Proofs.YtbmemdgeohnpnacGreat
