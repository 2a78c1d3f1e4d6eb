/-
  Draws of chapter 4: what a net is made of.
-/
import Derived.Test.YtbmemdgeohnpnabGreatDraw2
import Derived.Test.YtbmemdgeohnpnabGreatDraw4
import Derived.Test.YtbmemdgeohnpnabGreatJnX
namespace Go.Proofs.YtbmemdgeohnpnabGreat
open Go.ChangeShapes Go.WideShapes Go.ChangeAt Go.RowKit
set_option linter.unusedVariables false

end Go.Proofs.YtbmemdgeohnpnabGreat
