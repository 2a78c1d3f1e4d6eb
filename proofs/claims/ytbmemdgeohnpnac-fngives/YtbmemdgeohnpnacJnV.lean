/-
  Contracts of chapter 4: the quarrel as the three tell of it, in the program.
-/
import Derived.Test.YtbmemdgeohnpnacJnS
namespace Go.Proofs.Ytbmemdgeohnpnac
open Go.ChangeShapes Go.WideShapes Go.ChangeAt Go.RowKit
set_option linter.unusedVariables false

/-- the quarrel as the three tell of it -/
def claimZ (c : MCheat) (q : Int) (z : MQuarrel) : MQuarrel := { z with xTold := standV c z.xFrom z.xTold z.xHeard, xHeard := if c.xWho = z.xTo then (z.xHeard + c.xBy) % q else z.xHeard, xVowed := standV c z.xCheck z.xVowed z.xOther }
def qcells (z : MQuarrel) : Array Value := #[.bool z.xSome, .int .i64 z.xFrom, .int .i64 z.xCheck, .int .i64 z.xTo, .int .i64 z.xTold, .int .i64 z.xHeard, .int .i64 z.xOther, .int .i64 z.xVowed]
end Go.Proofs.Ytbmemdgeohnpnac
