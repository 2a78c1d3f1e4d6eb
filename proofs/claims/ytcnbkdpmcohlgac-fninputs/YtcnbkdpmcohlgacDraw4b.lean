/-
  Draws of chapter 4: what a net is made of.
-/
import Derived.Test.YtcnbkdpmcohlgacDraw2
import Derived.Test.YtcnbkdpmcohlgacDraw4
import Derived.Test.YtcnbkdpmcohlgacJnX
namespace Go.Proofs.Ytcnbkdpmcohlgac
open Go.ChangeShapes Go.WideShapes Go.ChangeAt Go.RowKit
set_option linter.unusedVariables false

end Go.Proofs.Ytcnbkdpmcohlgac
