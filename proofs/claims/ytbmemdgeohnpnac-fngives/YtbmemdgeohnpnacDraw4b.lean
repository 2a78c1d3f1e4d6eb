/-
  Draws of chapter 4: what a net is made of.
-/
import Derived.Test.YtbmemdgeohnpnacDraw2
import Derived.Test.YtbmemdgeohnpnacDraw4
import Derived.Test.YtbmemdgeohnpnacJnX
namespace Go.Proofs.Ytbmemdgeohnpnac
open Go.ChangeShapes Go.WideShapes Go.ChangeAt Go.RowKit
set_option linter.unusedVariables false

end Go.Proofs.Ytbmemdgeohnpnac
