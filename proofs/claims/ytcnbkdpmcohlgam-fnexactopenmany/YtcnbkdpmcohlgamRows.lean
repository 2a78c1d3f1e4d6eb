/-
  No cell of these rows narrows 'for every input' (looked for: loops, veiled, ifaces, maps, wideKeys, modest, calm, conditions, laid).
  DERIVED. THE GIVEN ROWS OF THIS SEAT. 4 by the template 'for every input the law returns true; each argument reads behind the call as it read before'; 0 by the template 'total and deterministic' (their statements: YtcnbkdpmcohlgamTotals.lean).
  GIVEN WITH THE SEED: the statements are not yours to turn. If you find one false, say at which input.
  Laid BY PROGRAM, IN A SANDBOX (cutbox-rows.mjs): the forced cells as the released guide's own fill.sh prints them over the translation dab6778440aadc04… (all of the seat's roots in one cut). By AI agents, Wed Nov 11 2026. No macro, syntax, notation, axiom, sorry.
-/
import Derived.Test.YtcnbkdpmcohlgamChecked
import GoSem.Claim
import GoSem.ClaimJoined
import GoSem.ClaimMapViews
import Derived.JoinedTies
import Derived.KernelRfl
namespace Go.Proofs.Ytcnbkdpmcohlgam
/- THE CELL 'sum', in the pinned program and in every row, IS THE sha256 OF THE DUMP (.gsa) THAT YtcnbkdpmcohlgamProg.lean LOADS. Nothing in Lean hashes anything: it is a label: what it is worth is what the hold of that sum in a sandbox is worth. -/
noncomputable def Try.pinned : Pinned := { name := "ytcnbkdpmcohlgam", sum := "dab6778440aadc04bc0f9e80a455d648721ae9cbd22b9909f3fdc9a83c75dfd7", checked := Try.checked }
namespace Rows
def none {H : Type} : Left H := { results := [], args := [] }

/-- 'laws.FnExactOpenMirror': WHATEVER THE INPUT: true; the input reads as it did. -/
def fnExactOpenMirrorSpec : ChangeSpec := { name := "fnExactOpenMirror", fn := fun _ => fun
  | [d1, d2, d3] => { results := [.lit (.bool true)], args := [d1, d2, d3] }
  | _ => none }
def fnExactOpenMirrorRow : OpenClaim := { program := "ytcnbkdpmcohlgam", sum := "dab6778440aadc04bc0f9e80a455d648721ae9cbd22b9909f3fdc9a83c75dfd7", func := "loop.example/g00525/laws.FnExactOpenMirror", spec := "fnExactOpenMirror", unfollowed := true, recurses := true, apart := false }
def FnExactOpenMirrorSaid : Prop := fnExactOpenMirrorRow.holds Try.pinned (OpenSpec.ofChange fnExactOpenMirrorSpec)

/-- ITS FALSE NEIGHBOUR: 'it returns false'. Refute it at one input. -/
def fnExactOpenMirrorWrong : ChangeSpec := { name := "fnExactOpenMirror", fn := fun _ => fun
  | [d1, d2, d3] => { results := [.lit (.bool false)], args := [d1, d2, d3] }
  | _ => none }
def FnExactOpenMirrorWrongFalsely : Prop := fnExactOpenMirrorRow.holds Try.pinned (OpenSpec.ofChange fnExactOpenMirrorWrong)

/-- 'laws.FnExactPartFrom': WHATEVER THE INPUT: true; the input reads as it did. -/
def fnExactPartFromSpec : ChangeSpec := { name := "fnExactPartFrom", fn := fun _ => fun
  | [d1, d2, d3, d4] => { results := [.lit (.bool true)], args := [d1, d2, d3, d4] }
  | _ => none }
def fnExactPartFromRow : OpenClaim := { program := "ytcnbkdpmcohlgam", sum := "dab6778440aadc04bc0f9e80a455d648721ae9cbd22b9909f3fdc9a83c75dfd7", func := "loop.example/g00525/laws.FnExactPartFrom", spec := "fnExactPartFrom", unfollowed := true, recurses := true, apart := false }
def FnExactPartFromSaid : Prop := fnExactPartFromRow.holds Try.pinned (OpenSpec.ofChange fnExactPartFromSpec)

/-- ITS FALSE NEIGHBOUR: 'it returns false'. Refute it at one input. -/
def fnExactPartFromWrong : ChangeSpec := { name := "fnExactPartFrom", fn := fun _ => fun
  | [d1, d2, d3, d4] => { results := [.lit (.bool false)], args := [d1, d2, d3, d4] }
  | _ => none }
def FnExactPartFromWrongFalsely : Prop := fnExactPartFromRow.holds Try.pinned (OpenSpec.ofChange fnExactPartFromWrong)

/-- 'laws.FnExactSumMirrors': WHATEVER THE INPUT: true; the input reads as it did. -/
def fnExactSumMirrorsSpec : ChangeSpec := { name := "fnExactSumMirrors", fn := fun _ => fun
  | [d] => { results := [.lit (.bool true)], args := [d] }
  | _ => none }
def fnExactSumMirrorsRow : OpenClaim := { program := "ytcnbkdpmcohlgam", sum := "dab6778440aadc04bc0f9e80a455d648721ae9cbd22b9909f3fdc9a83c75dfd7", func := "loop.example/g00525/laws.FnExactSumMirrors", spec := "fnExactSumMirrors", unfollowed := true, recurses := true, apart := false }
def FnExactSumMirrorsSaid : Prop := fnExactSumMirrorsRow.holds Try.pinned (OpenSpec.ofChange fnExactSumMirrorsSpec)

/-- ITS FALSE NEIGHBOUR: 'it returns false'. Refute it at one input. -/
def fnExactSumMirrorsWrong : ChangeSpec := { name := "fnExactSumMirrors", fn := fun _ => fun
  | [d] => { results := [.lit (.bool false)], args := [d] }
  | _ => none }
def FnExactSumMirrorsWrongFalsely : Prop := fnExactSumMirrorsRow.holds Try.pinned (OpenSpec.ofChange fnExactSumMirrorsWrong)

/-- 'laws.FnExactOpenMany': WHATEVER THE INPUT: true; the input reads as it did. -/
def fnExactOpenManySpec : ChangeSpec := { name := "fnExactOpenMany", fn := fun _ => fun
  | [d1, d2, d3] => { results := [.lit (.bool true)], args := [d1, d2, d3] }
  | _ => none }
def fnExactOpenManyRow : OpenClaim := { program := "ytcnbkdpmcohlgam", sum := "dab6778440aadc04bc0f9e80a455d648721ae9cbd22b9909f3fdc9a83c75dfd7", func := "loop.example/g00525/laws.FnExactOpenMany", spec := "fnExactOpenMany", unfollowed := true, recurses := true, apart := false }
def FnExactOpenManySaid : Prop := fnExactOpenManyRow.holds Try.pinned (OpenSpec.ofChange fnExactOpenManySpec)

/-- ITS FALSE NEIGHBOUR: 'it returns false'. Refute it at one input. -/
def fnExactOpenManyWrong : ChangeSpec := { name := "fnExactOpenMany", fn := fun _ => fun
  | [d1, d2, d3] => { results := [.lit (.bool false)], args := [d1, d2, d3] }
  | _ => none }
def FnExactOpenManyWrongFalsely : Prop := fnExactOpenManyRow.holds Try.pinned (OpenSpec.ofChange fnExactOpenManyWrong)

/- THE SECOND FORM. 'bulk': how many values and letters a reading holds, each counted each time it is reached (what is shared counts as often as it is met; a slice's spare places count too). A statement '..UptoSaid' is the law's where the arguments, and the package variables that the reading takes, are together of bulk at most 1048576: NARROWER than '..Said'. Prove '..Said' where nothing that the law and all that it calls make is longer than what came in: it says more and counts as full. Else prove '..UptoSaid'. A law counts once. -/
mutual
def uptoBulk {H : Type} : DataW H → Nat
  | .lit (.string bytes) => bytes.length + 1
  | .lit _ => 1
  | .nil => 1
  | .ptr d => uptoBulk d + 1
  | .slice elems spare => uptoBulkAll elems + uptoBulkAll spare + 1
  | .agg parts => uptoBulkAll parts + 1
  | .iface _ d => uptoBulk d + 1
  | .map entries => uptoBulkEntries entries + 1
  | .held _ => 1
def uptoBulkAll {H : Type} : List (DataW H) → Nat
  | [] => 0
  | d :: r => uptoBulk d + uptoBulkAll r
def uptoBulkEntries {H : Type} : List (Lit × DataW H) → Nat
  | [] => 0
  | x :: r => uptoBulkEntry x + uptoBulkEntries r
def uptoBulkEntry {H : Type} : Lit × DataW H → Nat
  | (.string bytes, d) => bytes.length + uptoBulk d + 1
  | (_, d) => uptoBulk d + 1
 end
def uptoSmall : (H : Type) → List (DataW H) → Bool := fun _ ds => decide (uptoBulkAll ds ≤ 1048576)
def OpenSpec.upto (s : _root_.Go.ChangeSpec) : _root_.Go.OpenSpec := { _root_.Go.OpenSpec.ofChange s with cond := some uptoSmall }

/-- 'laws.FnExactOpenMirror', WHERE WHAT IT READS IS OF BULK AT MOST 1048576: true; the input reads as it did. -/
def fnExactOpenMirrorUptoRow : OpenClaim := { program := "ytcnbkdpmcohlgam", sum := "dab6778440aadc04bc0f9e80a455d648721ae9cbd22b9909f3fdc9a83c75dfd7", func := "loop.example/g00525/laws.FnExactOpenMirror", spec := "fnExactOpenMirror", unfollowed := true, recurses := true, apart := false, narrowed := true }
def FnExactOpenMirrorUptoSaid : Prop := fnExactOpenMirrorUptoRow.holds Try.pinned (OpenSpec.upto fnExactOpenMirrorSpec)

/-- 'laws.FnExactPartFrom', WHERE WHAT IT READS IS OF BULK AT MOST 1048576: true; the input reads as it did. -/
def fnExactPartFromUptoRow : OpenClaim := { program := "ytcnbkdpmcohlgam", sum := "dab6778440aadc04bc0f9e80a455d648721ae9cbd22b9909f3fdc9a83c75dfd7", func := "loop.example/g00525/laws.FnExactPartFrom", spec := "fnExactPartFrom", unfollowed := true, recurses := true, apart := false, narrowed := true }
def FnExactPartFromUptoSaid : Prop := fnExactPartFromUptoRow.holds Try.pinned (OpenSpec.upto fnExactPartFromSpec)

/-- 'laws.FnExactSumMirrors', WHERE WHAT IT READS IS OF BULK AT MOST 1048576: true; the input reads as it did. -/
def fnExactSumMirrorsUptoRow : OpenClaim := { program := "ytcnbkdpmcohlgam", sum := "dab6778440aadc04bc0f9e80a455d648721ae9cbd22b9909f3fdc9a83c75dfd7", func := "loop.example/g00525/laws.FnExactSumMirrors", spec := "fnExactSumMirrors", unfollowed := true, recurses := true, apart := false, narrowed := true }
def FnExactSumMirrorsUptoSaid : Prop := fnExactSumMirrorsUptoRow.holds Try.pinned (OpenSpec.upto fnExactSumMirrorsSpec)

/-- 'laws.FnExactOpenMany', WHERE WHAT IT READS IS OF BULK AT MOST 1048576: true; the input reads as it did. -/
def fnExactOpenManyUptoRow : OpenClaim := { program := "ytcnbkdpmcohlgam", sum := "dab6778440aadc04bc0f9e80a455d648721ae9cbd22b9909f3fdc9a83c75dfd7", func := "loop.example/g00525/laws.FnExactOpenMany", spec := "fnExactOpenMany", unfollowed := true, recurses := true, apart := false, narrowed := true }
def FnExactOpenManyUptoSaid : Prop := fnExactOpenManyUptoRow.holds Try.pinned (OpenSpec.upto fnExactOpenManySpec)

end Rows
end Go.Proofs.Ytcnbkdpmcohlgam
