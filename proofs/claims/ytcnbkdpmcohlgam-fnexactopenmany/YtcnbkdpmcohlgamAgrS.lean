/-
  Contracts of chapter 6's model: what three agree on.
-/
import Derived.Test.YtcnbkdpmcohlgamOrn
import Derived.Test.YtcnbkdpmcohlgamV5
import Derived.Deep.RegionHeld3
namespace Go.Proofs.Ytcnbkdpmcohlgam
open Go.ChangeShapes Go.WideShapes Go.ChangeAt Go.RowKit
set_option linter.unusedVariables false
theorem okV_okE (q : Int) (xs : List Int) : okV q xs = okE q xs := by
  rw [Bool.eq_iff_iff, okV_iff, okE_iff]
end Go.Proofs.Ytcnbkdpmcohlgam
