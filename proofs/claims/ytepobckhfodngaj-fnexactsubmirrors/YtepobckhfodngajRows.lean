/-
  No cell of these rows narrows 'for every input' (looked for: loops, veiled, ifaces, maps, wideKeys, modest, calm, conditions, laid).
  DERIVED. THE GIVEN ROWS OF THIS SEAT. 6 by the template 'for every input the law returns true; each argument reads behind the call as it read before'; 0 by the template 'total and deterministic' (their statements: YtepobckhfodngajTotals.lean).
  GIVEN WITH THE SEED: the statements are not yours to turn. If you find one false, say at which input.
  Laid BY PROGRAM, IN A SANDBOX (cutbox-rows.mjs): the forced cells as the released guide's own fill.sh prints them over the translation c84c86639466207a… (all of the seat's roots in one cut). By AI agents, Wed Nov 11 2026. No macro, syntax, notation, axiom, sorry.
-/
import Derived.Test.YtepobckhfodngajChecked
import GoSem.Claim
import GoSem.ClaimJoined
import GoSem.ClaimMapViews
import Derived.JoinedTies
import Derived.KernelRfl
namespace Go.Proofs.Ytepobckhfodngaj
/- THE CELL 'sum', in the pinned program and in every row, IS THE sha256 OF THE DUMP (.gsa) THAT YtepobckhfodngajProg.lean LOADS. Nothing in Lean hashes anything: it is a label: what it is worth is what the hold of that sum in a sandbox is worth. -/
noncomputable def Try.pinned : Pinned := { name := "ytepobckhfodngaj", sum := "c84c86639466207aad361e85c759e8860c6978307960bb5b7434afa07e08d488", checked := Try.checked }
namespace Rows
def none {H : Type} : Left H := { results := [], args := [] }

/-- 'laws.FnExactSubMirrors': WHATEVER THE INPUT: true; the input reads as it did. -/
def fnExactSubMirrorsSpec : ChangeSpec := { name := "fnExactSubMirrors", fn := fun _ => fun
  | [d1, d2] => { results := [.lit (.bool true)], args := [d1, d2] }
  | _ => none }
def fnExactSubMirrorsRow : OpenClaim := { program := "ytepobckhfodngaj", sum := "c84c86639466207aad361e85c759e8860c6978307960bb5b7434afa07e08d488", func := "loop.example/g00525/laws.FnExactSubMirrors", spec := "fnExactSubMirrors", unfollowed := true, recurses := true, apart := false }
def FnExactSubMirrorsSaid : Prop := fnExactSubMirrorsRow.holds Try.pinned (OpenSpec.ofChange fnExactSubMirrorsSpec)

/-- ITS FALSE NEIGHBOUR: 'it returns false'. Refute it at one input. -/
def fnExactSubMirrorsWrong : ChangeSpec := { name := "fnExactSubMirrors", fn := fun _ => fun
  | [d1, d2] => { results := [.lit (.bool false)], args := [d1, d2] }
  | _ => none }
def FnExactSubMirrorsWrongFalsely : Prop := fnExactSubMirrorsRow.holds Try.pinned (OpenSpec.ofChange fnExactSubMirrorsWrong)

/-- 'laws.FnExactScaleMirror': WHATEVER THE INPUT: true; the input reads as it did. -/
def fnExactScaleMirrorSpec : ChangeSpec := { name := "fnExactScaleMirror", fn := fun _ => fun
  | [d1, d2] => { results := [.lit (.bool true)], args := [d1, d2] }
  | _ => none }
def fnExactScaleMirrorRow : OpenClaim := { program := "ytepobckhfodngaj", sum := "c84c86639466207aad361e85c759e8860c6978307960bb5b7434afa07e08d488", func := "loop.example/g00525/laws.FnExactScaleMirror", spec := "fnExactScaleMirror", apart := false }
def FnExactScaleMirrorSaid : Prop := fnExactScaleMirrorRow.holds Try.pinned (OpenSpec.ofChange fnExactScaleMirrorSpec)

/-- ITS FALSE NEIGHBOUR: 'it returns false'. Refute it at one input. -/
def fnExactScaleMirrorWrong : ChangeSpec := { name := "fnExactScaleMirror", fn := fun _ => fun
  | [d1, d2] => { results := [.lit (.bool false)], args := [d1, d2] }
  | _ => none }
def FnExactScaleMirrorWrongFalsely : Prop := fnExactScaleMirrorRow.holds Try.pinned (OpenSpec.ofChange fnExactScaleMirrorWrong)

/-- 'laws.FnExactPlainMirror': WHATEVER THE INPUT: true; the input reads as it did. -/
def fnExactPlainMirrorSpec : ChangeSpec := { name := "fnExactPlainMirror", fn := fun _ => fun
  | [d1, d2] => { results := [.lit (.bool true)], args := [d1, d2] }
  | _ => none }
def fnExactPlainMirrorRow : OpenClaim := { program := "ytepobckhfodngaj", sum := "c84c86639466207aad361e85c759e8860c6978307960bb5b7434afa07e08d488", func := "loop.example/g00525/laws.FnExactPlainMirror", spec := "fnExactPlainMirror", apart := false }
def FnExactPlainMirrorSaid : Prop := fnExactPlainMirrorRow.holds Try.pinned (OpenSpec.ofChange fnExactPlainMirrorSpec)

/-- ITS FALSE NEIGHBOUR: 'it returns false'. Refute it at one input. -/
def fnExactPlainMirrorWrong : ChangeSpec := { name := "fnExactPlainMirror", fn := fun _ => fun
  | [d1, d2] => { results := [.lit (.bool false)], args := [d1, d2] }
  | _ => none }
def FnExactPlainMirrorWrongFalsely : Prop := fnExactPlainMirrorRow.holds Try.pinned (OpenSpec.ofChange fnExactPlainMirrorWrong)

/-- 'laws.FnExactNetFault': WHATEVER THE INPUT: true; the input reads as it did. -/
def fnExactNetFaultSpec : ChangeSpec := { name := "fnExactNetFault", fn := fun _ => fun
  | [d] => { results := [.lit (.bool true)], args := [d] }
  | _ => none }
def fnExactNetFaultRow : OpenClaim := { program := "ytepobckhfodngaj", sum := "c84c86639466207aad361e85c759e8860c6978307960bb5b7434afa07e08d488", func := "loop.example/g00525/laws.FnExactNetFault", spec := "fnExactNetFault", apart := false }
def FnExactNetFaultSaid : Prop := fnExactNetFaultRow.holds Try.pinned (OpenSpec.ofChange fnExactNetFaultSpec)

/-- ITS FALSE NEIGHBOUR: 'it returns false'. Refute it at one input. -/
def fnExactNetFaultWrong : ChangeSpec := { name := "fnExactNetFault", fn := fun _ => fun
  | [d] => { results := [.lit (.bool false)], args := [d] }
  | _ => none }
def FnExactNetFaultWrongFalsely : Prop := fnExactNetFaultRow.holds Try.pinned (OpenSpec.ofChange fnExactNetFaultWrong)

/-- 'laws.FnExactNewNet': WHATEVER THE INPUT: true; the input reads as it did. -/
def fnExactNewNetSpec : ChangeSpec := { name := "fnExactNewNet", fn := fun _ => fun
  | [d1, d2] => { results := [.lit (.bool true)], args := [d1, d2] }
  | _ => none }
def fnExactNewNetRow : OpenClaim := { program := "ytepobckhfodngaj", sum := "c84c86639466207aad361e85c759e8860c6978307960bb5b7434afa07e08d488", func := "loop.example/g00525/laws.FnExactNewNet", spec := "fnExactNewNet", apart := false }
def FnExactNewNetSaid : Prop := fnExactNewNetRow.holds Try.pinned (OpenSpec.ofChange fnExactNewNetSpec)

/-- ITS FALSE NEIGHBOUR: 'it returns false'. Refute it at one input. -/
def fnExactNewNetWrong : ChangeSpec := { name := "fnExactNewNet", fn := fun _ => fun
  | [d1, d2] => { results := [.lit (.bool false)], args := [d1, d2] }
  | _ => none }
def FnExactNewNetWrongFalsely : Prop := fnExactNewNetRow.holds Try.pinned (OpenSpec.ofChange fnExactNewNetWrong)

/-- 'laws.FnExactTakeWord': WHATEVER THE INPUT: true; the input reads as it did. -/
def fnExactTakeWordSpec : ChangeSpec := { name := "fnExactTakeWord", fn := fun _ => fun
  | [d1, d2, d3] => { results := [.lit (.bool true)], args := [d1, d2, d3] }
  | _ => none }
def fnExactTakeWordRow : OpenClaim := { program := "ytepobckhfodngaj", sum := "c84c86639466207aad361e85c759e8860c6978307960bb5b7434afa07e08d488", func := "loop.example/g00525/laws.FnExactTakeWord", spec := "fnExactTakeWord", apart := false }
def FnExactTakeWordSaid : Prop := fnExactTakeWordRow.holds Try.pinned (OpenSpec.ofChange fnExactTakeWordSpec)

/-- ITS FALSE NEIGHBOUR: 'it returns false'. Refute it at one input. -/
def fnExactTakeWordWrong : ChangeSpec := { name := "fnExactTakeWord", fn := fun _ => fun
  | [d1, d2, d3] => { results := [.lit (.bool false)], args := [d1, d2, d3] }
  | _ => none }
def FnExactTakeWordWrongFalsely : Prop := fnExactTakeWordRow.holds Try.pinned (OpenSpec.ofChange fnExactTakeWordWrong)

/- THE SECOND FORM. 'bulk': how many values and letters a reading holds, each counted each time it is reached (what is shared counts as often as it is met; a slice's spare places count too). A statement '..UptoSaid' is the law's where the arguments, and the package variables that the reading takes, are together of bulk at most 1048576: NARROWER than '..Said'. Prove '..Said' where nothing that the law and all that it calls make is longer than what came in: it says more and counts as full. Else prove '..UptoSaid'. A law counts once. -/
mutual
def uptoBulk {H : Type} : DataW H → Nat
  | .lit (.string bytes) => bytes.length + 1
  | .lit _ => 1
  | .nil => 1
  | .ptr d => uptoBulk d + 1
  | .slice elems spare => uptoBulkAll elems + uptoBulkAll spare + 1
  | .agg parts => uptoBulkAll parts + 1
  | .iface _ d => uptoBulk d + 1
  | .map entries => uptoBulkEntries entries + 1
  | .held _ => 1
def uptoBulkAll {H : Type} : List (DataW H) → Nat
  | [] => 0
  | d :: r => uptoBulk d + uptoBulkAll r
def uptoBulkEntries {H : Type} : List (Lit × DataW H) → Nat
  | [] => 0
  | x :: r => uptoBulkEntry x + uptoBulkEntries r
def uptoBulkEntry {H : Type} : Lit × DataW H → Nat
  | (.string bytes, d) => bytes.length + uptoBulk d + 1
  | (_, d) => uptoBulk d + 1
 end
def uptoSmall : (H : Type) → List (DataW H) → Bool := fun _ ds => decide (uptoBulkAll ds ≤ 1048576)
def OpenSpec.upto (s : _root_.Go.ChangeSpec) : _root_.Go.OpenSpec := { _root_.Go.OpenSpec.ofChange s with cond := some uptoSmall }

/-- 'laws.FnExactSubMirrors', WHERE WHAT IT READS IS OF BULK AT MOST 1048576: true; the input reads as it did. -/
def fnExactSubMirrorsUptoRow : OpenClaim := { program := "ytepobckhfodngaj", sum := "c84c86639466207aad361e85c759e8860c6978307960bb5b7434afa07e08d488", func := "loop.example/g00525/laws.FnExactSubMirrors", spec := "fnExactSubMirrors", unfollowed := true, recurses := true, apart := false, narrowed := true }
def FnExactSubMirrorsUptoSaid : Prop := fnExactSubMirrorsUptoRow.holds Try.pinned (OpenSpec.upto fnExactSubMirrorsSpec)

/-- 'laws.FnExactScaleMirror', WHERE WHAT IT READS IS OF BULK AT MOST 1048576: true; the input reads as it did. -/
def fnExactScaleMirrorUptoRow : OpenClaim := { program := "ytepobckhfodngaj", sum := "c84c86639466207aad361e85c759e8860c6978307960bb5b7434afa07e08d488", func := "loop.example/g00525/laws.FnExactScaleMirror", spec := "fnExactScaleMirror", apart := false, narrowed := true }
def FnExactScaleMirrorUptoSaid : Prop := fnExactScaleMirrorUptoRow.holds Try.pinned (OpenSpec.upto fnExactScaleMirrorSpec)

/-- 'laws.FnExactPlainMirror', WHERE WHAT IT READS IS OF BULK AT MOST 1048576: true; the input reads as it did. -/
def fnExactPlainMirrorUptoRow : OpenClaim := { program := "ytepobckhfodngaj", sum := "c84c86639466207aad361e85c759e8860c6978307960bb5b7434afa07e08d488", func := "loop.example/g00525/laws.FnExactPlainMirror", spec := "fnExactPlainMirror", apart := false, narrowed := true }
def FnExactPlainMirrorUptoSaid : Prop := fnExactPlainMirrorUptoRow.holds Try.pinned (OpenSpec.upto fnExactPlainMirrorSpec)

/-- 'laws.FnExactNetFault', WHERE WHAT IT READS IS OF BULK AT MOST 1048576: true; the input reads as it did. -/
def fnExactNetFaultUptoRow : OpenClaim := { program := "ytepobckhfodngaj", sum := "c84c86639466207aad361e85c759e8860c6978307960bb5b7434afa07e08d488", func := "loop.example/g00525/laws.FnExactNetFault", spec := "fnExactNetFault", apart := false, narrowed := true }
def FnExactNetFaultUptoSaid : Prop := fnExactNetFaultUptoRow.holds Try.pinned (OpenSpec.upto fnExactNetFaultSpec)

/-- 'laws.FnExactNewNet', WHERE WHAT IT READS IS OF BULK AT MOST 1048576: true; the input reads as it did. -/
def fnExactNewNetUptoRow : OpenClaim := { program := "ytepobckhfodngaj", sum := "c84c86639466207aad361e85c759e8860c6978307960bb5b7434afa07e08d488", func := "loop.example/g00525/laws.FnExactNewNet", spec := "fnExactNewNet", apart := false, narrowed := true }
def FnExactNewNetUptoSaid : Prop := fnExactNewNetUptoRow.holds Try.pinned (OpenSpec.upto fnExactNewNetSpec)

/-- 'laws.FnExactTakeWord', WHERE WHAT IT READS IS OF BULK AT MOST 1048576: true; the input reads as it did. -/
def fnExactTakeWordUptoRow : OpenClaim := { program := "ytepobckhfodngaj", sum := "c84c86639466207aad361e85c759e8860c6978307960bb5b7434afa07e08d488", func := "loop.example/g00525/laws.FnExactTakeWord", spec := "fnExactTakeWord", apart := false, narrowed := true }
def FnExactTakeWordUptoSaid : Prop := fnExactTakeWordUptoRow.holds Try.pinned (OpenSpec.upto fnExactTakeWordSpec)

end Rows
end Go.Proofs.Ytepobckhfodngaj
