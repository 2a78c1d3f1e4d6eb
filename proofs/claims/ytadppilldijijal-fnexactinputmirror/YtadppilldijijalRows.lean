/-
  No cell of these rows narrows 'for every input' (looked for: loops, veiled, ifaces, maps, wideKeys, modest, calm, conditions, laid).
  DERIVED. THE GIVEN ROWS OF THIS SEAT. 3 by the template 'for every input the law returns true; each argument reads behind the call as it read before'; 0 by the template 'total and deterministic' (their statements: YtadppilldijijalTotals.lean).
  GIVEN WITH THE SEED: the statements are not yours to turn. If you find one false, say at which input.
  Laid BY PROGRAM, IN A SANDBOX (cutbox-rows.mjs): the forced cells as the released guide's own fill.sh prints them over the translation 1d428b298d0eb3ee… (all of the seat's roots in one cut). By AI agents, Wed Nov 11 2026. No macro, syntax, notation, axiom, sorry.
-/
import Derived.Test.YtadppilldijijalChecked
import GoSem.Claim
import GoSem.ClaimJoined
import GoSem.ClaimMapViews
import Derived.JoinedTies
import Derived.KernelRfl
namespace Go.Proofs.Ytadppilldijijal
/- THE CELL 'sum', in the pinned program and in every row, IS THE sha256 OF THE DUMP (.gsa) THAT YtadppilldijijalProg.lean LOADS. Nothing in Lean hashes anything: it is a label: what it is worth is what the hold of that sum in a sandbox is worth. -/
noncomputable def Try.pinned : Pinned := { name := "ytadppilldijijal", sum := "1d428b298d0eb3eeb3b9ca9bc7d2cf614bf931897f97f71462c4c414c64a3fb1", checked := Try.checked }
namespace Rows
def none {H : Type} : Left H := { results := [], args := [] }

/-- 'laws.FnExactOthersOf': WHATEVER THE INPUT: true; the input reads as it did. -/
def fnExactOthersOfSpec : ChangeSpec := { name := "fnExactOthersOf", fn := fun _ => fun
  | [d1, d2] => { results := [.lit (.bool true)], args := [d1, d2] }
  | _ => none }
def fnExactOthersOfRow : OpenClaim := { program := "ytadppilldijijal", sum := "1d428b298d0eb3eeb3b9ca9bc7d2cf614bf931897f97f71462c4c414c64a3fb1", func := "loop.example/g00525/laws.FnExactOthersOf", spec := "fnExactOthersOf", apart := false }
def FnExactOthersOfSaid : Prop := fnExactOthersOfRow.holds Try.pinned (OpenSpec.ofChange fnExactOthersOfSpec)

/-- ITS FALSE NEIGHBOUR: 'it returns false'. Refute it at one input. -/
def fnExactOthersOfWrong : ChangeSpec := { name := "fnExactOthersOf", fn := fun _ => fun
  | [d1, d2] => { results := [.lit (.bool false)], args := [d1, d2] }
  | _ => none }
def FnExactOthersOfWrongFalsely : Prop := fnExactOthersOfRow.holds Try.pinned (OpenSpec.ofChange fnExactOthersOfWrong)

/-- 'laws.FnExactAgreeInput': WHATEVER THE INPUT: true; the input reads as it did. -/
def fnExactAgreeInputSpec : ChangeSpec := { name := "fnExactAgreeInput", fn := fun _ => fun
  | [d] => { results := [.lit (.bool true)], args := [d] }
  | _ => none }
def fnExactAgreeInputRow : OpenClaim := { program := "ytadppilldijijal", sum := "1d428b298d0eb3eeb3b9ca9bc7d2cf614bf931897f97f71462c4c414c64a3fb1", func := "loop.example/g00525/laws.FnExactAgreeInput", spec := "fnExactAgreeInput", unfollowed := true, recurses := true, apart := false }
def FnExactAgreeInputSaid : Prop := fnExactAgreeInputRow.holds Try.pinned (OpenSpec.ofChange fnExactAgreeInputSpec)

/-- ITS FALSE NEIGHBOUR: 'it returns false'. Refute it at one input. -/
def fnExactAgreeInputWrong : ChangeSpec := { name := "fnExactAgreeInput", fn := fun _ => fun
  | [d] => { results := [.lit (.bool false)], args := [d] }
  | _ => none }
def FnExactAgreeInputWrongFalsely : Prop := fnExactAgreeInputRow.holds Try.pinned (OpenSpec.ofChange fnExactAgreeInputWrong)

/-- 'laws.FnExactInputMirror': WHATEVER THE INPUT: true; the input reads as it did. -/
def fnExactInputMirrorSpec : ChangeSpec := { name := "fnExactInputMirror", fn := fun _ => fun
  | [d1, d2, d3] => { results := [.lit (.bool true)], args := [d1, d2, d3] }
  | _ => none }
def fnExactInputMirrorRow : OpenClaim := { program := "ytadppilldijijal", sum := "1d428b298d0eb3eeb3b9ca9bc7d2cf614bf931897f97f71462c4c414c64a3fb1", func := "loop.example/g00525/laws.FnExactInputMirror", spec := "fnExactInputMirror", unfollowed := true, recurses := true, apart := false }
def FnExactInputMirrorSaid : Prop := fnExactInputMirrorRow.holds Try.pinned (OpenSpec.ofChange fnExactInputMirrorSpec)

/-- ITS FALSE NEIGHBOUR: 'it returns false'. Refute it at one input. -/
def fnExactInputMirrorWrong : ChangeSpec := { name := "fnExactInputMirror", fn := fun _ => fun
  | [d1, d2, d3] => { results := [.lit (.bool false)], args := [d1, d2, d3] }
  | _ => none }
def FnExactInputMirrorWrongFalsely : Prop := fnExactInputMirrorRow.holds Try.pinned (OpenSpec.ofChange fnExactInputMirrorWrong)

/- THE SECOND FORM. 'bulk': how many values and letters a reading holds, each counted each time it is reached (what is shared counts as often as it is met; a slice's spare places count too). A statement '..UptoSaid' is the law's where the arguments, and the package variables that the reading takes, are together of bulk at most 1048576: NARROWER than '..Said'. Prove '..Said' where nothing that the law and all that it calls make is longer than what came in: it says more and counts as full. Else prove '..UptoSaid'. A law counts once. -/
mutual
def uptoBulk {H : Type} : DataW H → Nat
  | .lit (.string bytes) => bytes.length + 1
  | .lit _ => 1
  | .nil => 1
  | .ptr d => uptoBulk d + 1
  | .slice elems spare => uptoBulkAll elems + uptoBulkAll spare + 1
  | .agg parts => uptoBulkAll parts + 1
  | .iface _ d => uptoBulk d + 1
  | .map entries => uptoBulkEntries entries + 1
  | .held _ => 1
def uptoBulkAll {H : Type} : List (DataW H) → Nat
  | [] => 0
  | d :: r => uptoBulk d + uptoBulkAll r
def uptoBulkEntries {H : Type} : List (Lit × DataW H) → Nat
  | [] => 0
  | x :: r => uptoBulkEntry x + uptoBulkEntries r
def uptoBulkEntry {H : Type} : Lit × DataW H → Nat
  | (.string bytes, d) => bytes.length + uptoBulk d + 1
  | (_, d) => uptoBulk d + 1
 end
def uptoSmall : (H : Type) → List (DataW H) → Bool := fun _ ds => decide (uptoBulkAll ds ≤ 1048576)
def OpenSpec.upto (s : _root_.Go.ChangeSpec) : _root_.Go.OpenSpec := { _root_.Go.OpenSpec.ofChange s with cond := some uptoSmall }

/-- 'laws.FnExactOthersOf', WHERE WHAT IT READS IS OF BULK AT MOST 1048576: true; the input reads as it did. -/
def fnExactOthersOfUptoRow : OpenClaim := { program := "ytadppilldijijal", sum := "1d428b298d0eb3eeb3b9ca9bc7d2cf614bf931897f97f71462c4c414c64a3fb1", func := "loop.example/g00525/laws.FnExactOthersOf", spec := "fnExactOthersOf", apart := false, narrowed := true }
def FnExactOthersOfUptoSaid : Prop := fnExactOthersOfUptoRow.holds Try.pinned (OpenSpec.upto fnExactOthersOfSpec)

/-- 'laws.FnExactAgreeInput', WHERE WHAT IT READS IS OF BULK AT MOST 1048576: true; the input reads as it did. -/
def fnExactAgreeInputUptoRow : OpenClaim := { program := "ytadppilldijijal", sum := "1d428b298d0eb3eeb3b9ca9bc7d2cf614bf931897f97f71462c4c414c64a3fb1", func := "loop.example/g00525/laws.FnExactAgreeInput", spec := "fnExactAgreeInput", unfollowed := true, recurses := true, apart := false, narrowed := true }
def FnExactAgreeInputUptoSaid : Prop := fnExactAgreeInputUptoRow.holds Try.pinned (OpenSpec.upto fnExactAgreeInputSpec)

/-- 'laws.FnExactInputMirror', WHERE WHAT IT READS IS OF BULK AT MOST 1048576: true; the input reads as it did. -/
def fnExactInputMirrorUptoRow : OpenClaim := { program := "ytadppilldijijal", sum := "1d428b298d0eb3eeb3b9ca9bc7d2cf614bf931897f97f71462c4c414c64a3fb1", func := "loop.example/g00525/laws.FnExactInputMirror", spec := "fnExactInputMirror", unfollowed := true, recurses := true, apart := false, narrowed := true }
def FnExactInputMirrorUptoSaid : Prop := fnExactInputMirrorUptoRow.holds Try.pinned (OpenSpec.upto fnExactInputMirrorSpec)

end Rows
end Go.Proofs.Ytadppilldijijal
