/-
  No cell of these rows narrows 'for every input' (looked for: loops, veiled, ifaces, maps, wideKeys, modest, calm, conditions, laid).
  DERIVED. THE GIVEN ROWS OF THIS SEAT. 6 by the template 'for every input the law returns true; each argument reads behind the call as it read before'; 0 by the template 'total and deterministic' (their statements: YtepobckhfodngaiTotals.lean).
  GIVEN WITH THE SEED: the statements are not yours to turn. If you find one false, say at which input.
  Laid BY PROGRAM, IN A SANDBOX (cutbox-rows.mjs): the forced cells as the released guide's own fill.sh prints them over the translation e2f0ecab60e99d83… (all of the seat's roots in one cut). By AI agents, Wed Nov 11 2026. No macro, syntax, notation, axiom, sorry.
-/
import Derived.Test.YtepobckhfodngaiChecked
import GoSem.Claim
import GoSem.ClaimJoined
import GoSem.ClaimMapViews
import Derived.JoinedTies
import Derived.KernelRfl
namespace Go.Proofs.Ytepobckhfodngai
/- THE CELL 'sum', in the pinned program and in every row, IS THE sha256 OF THE DUMP (.gsa) THAT YtepobckhfodngaiProg.lean LOADS. Nothing in Lean hashes anything: it is a label: what it is worth is what the hold of that sum in a sandbox is worth. -/
noncomputable def Try.pinned : Pinned := { name := "ytepobckhfodngai", sum := "e2f0ecab60e99d83f3d222f43afb616ba24282390b4d6044f6bb2b4a02eb4cb7", checked := Try.checked }
namespace Rows
def none {H : Type} : Left H := { results := [], args := [] }

/-- 'laws.FnExactSameTapes': WHATEVER THE INPUT: true; the input reads as it did. -/
def fnExactSameTapesSpec : ChangeSpec := { name := "fnExactSameTapes", fn := fun _ => fun
  | [d1, d2] => { results := [.lit (.bool true)], args := [d1, d2] }
  | _ => none }
def fnExactSameTapesRow : OpenClaim := { program := "ytepobckhfodngai", sum := "e2f0ecab60e99d83f3d222f43afb616ba24282390b4d6044f6bb2b4a02eb4cb7", func := "loop.example/g00525/laws.FnExactSameTapes", spec := "fnExactSameTapes", unfollowed := true, recurses := true, apart := false }
def FnExactSameTapesSaid : Prop := fnExactSameTapesRow.holds Try.pinned (OpenSpec.ofChange fnExactSameTapesSpec)

/-- ITS FALSE NEIGHBOUR: 'it returns false'. Refute it at one input. -/
def fnExactSameTapesWrong : ChangeSpec := { name := "fnExactSameTapes", fn := fun _ => fun
  | [d1, d2] => { results := [.lit (.bool false)], args := [d1, d2] }
  | _ => none }
def FnExactSameTapesWrongFalsely : Prop := fnExactSameTapesRow.holds Try.pinned (OpenSpec.ofChange fnExactSameTapesWrong)

/-- 'laws.FnExactMirrorFault': WHATEVER THE INPUT: true; the input reads as it did. -/
def fnExactMirrorFaultSpec : ChangeSpec := { name := "fnExactMirrorFault", fn := fun _ => fun
  | [d] => { results := [.lit (.bool true)], args := [d] }
  | _ => none }
def fnExactMirrorFaultRow : OpenClaim := { program := "ytepobckhfodngai", sum := "e2f0ecab60e99d83f3d222f43afb616ba24282390b4d6044f6bb2b4a02eb4cb7", func := "loop.example/g00525/laws.FnExactMirrorFault", spec := "fnExactMirrorFault", apart := false }
def FnExactMirrorFaultSaid : Prop := fnExactMirrorFaultRow.holds Try.pinned (OpenSpec.ofChange fnExactMirrorFaultSpec)

/-- ITS FALSE NEIGHBOUR: 'it returns false'. Refute it at one input. -/
def fnExactMirrorFaultWrong : ChangeSpec := { name := "fnExactMirrorFault", fn := fun _ => fun
  | [d] => { results := [.lit (.bool false)], args := [d] }
  | _ => none }
def FnExactMirrorFaultWrongFalsely : Prop := fnExactMirrorFaultRow.holds Try.pinned (OpenSpec.ofChange fnExactMirrorFaultWrong)

/-- 'laws.FnExactMirrorOf': WHATEVER THE INPUT: true; the input reads as it did. -/
def fnExactMirrorOfSpec : ChangeSpec := { name := "fnExactMirrorOf", fn := fun _ => fun
  | [d1, d2] => { results := [.lit (.bool true)], args := [d1, d2] }
  | _ => none }
def fnExactMirrorOfRow : OpenClaim := { program := "ytepobckhfodngai", sum := "e2f0ecab60e99d83f3d222f43afb616ba24282390b4d6044f6bb2b4a02eb4cb7", func := "loop.example/g00525/laws.FnExactMirrorOf", spec := "fnExactMirrorOf", apart := false }
def FnExactMirrorOfSaid : Prop := fnExactMirrorOfRow.holds Try.pinned (OpenSpec.ofChange fnExactMirrorOfSpec)

/-- ITS FALSE NEIGHBOUR: 'it returns false'. Refute it at one input. -/
def fnExactMirrorOfWrong : ChangeSpec := { name := "fnExactMirrorOf", fn := fun _ => fun
  | [d1, d2] => { results := [.lit (.bool false)], args := [d1, d2] }
  | _ => none }
def FnExactMirrorOfWrongFalsely : Prop := fnExactMirrorOfRow.holds Try.pinned (OpenSpec.ofChange fnExactMirrorOfWrong)

/-- 'laws.FnExactIsAlike': WHATEVER THE INPUT: true; the input reads as it did. -/
def fnExactIsAlikeSpec : ChangeSpec := { name := "fnExactIsAlike", fn := fun _ => fun
  | [d1, d2] => { results := [.lit (.bool true)], args := [d1, d2] }
  | _ => none }
def fnExactIsAlikeRow : OpenClaim := { program := "ytepobckhfodngai", sum := "e2f0ecab60e99d83f3d222f43afb616ba24282390b4d6044f6bb2b4a02eb4cb7", func := "loop.example/g00525/laws.FnExactIsAlike", spec := "fnExactIsAlike", apart := false }
def FnExactIsAlikeSaid : Prop := fnExactIsAlikeRow.holds Try.pinned (OpenSpec.ofChange fnExactIsAlikeSpec)

/-- ITS FALSE NEIGHBOUR: 'it returns false'. Refute it at one input. -/
def fnExactIsAlikeWrong : ChangeSpec := { name := "fnExactIsAlike", fn := fun _ => fun
  | [d1, d2] => { results := [.lit (.bool false)], args := [d1, d2] }
  | _ => none }
def FnExactIsAlikeWrongFalsely : Prop := fnExactIsAlikeRow.holds Try.pinned (OpenSpec.ofChange fnExactIsAlikeWrong)

/-- 'laws.FnExactValueOf': WHATEVER THE INPUT: true; the input reads as it did. -/
def fnExactValueOfSpec : ChangeSpec := { name := "fnExactValueOf", fn := fun _ => fun
  | [d1, d2] => { results := [.lit (.bool true)], args := [d1, d2] }
  | _ => none }
def fnExactValueOfRow : OpenClaim := { program := "ytepobckhfodngai", sum := "e2f0ecab60e99d83f3d222f43afb616ba24282390b4d6044f6bb2b4a02eb4cb7", func := "loop.example/g00525/laws.FnExactValueOf", spec := "fnExactValueOf", apart := false }
def FnExactValueOfSaid : Prop := fnExactValueOfRow.holds Try.pinned (OpenSpec.ofChange fnExactValueOfSpec)

/-- ITS FALSE NEIGHBOUR: 'it returns false'. Refute it at one input. -/
def fnExactValueOfWrong : ChangeSpec := { name := "fnExactValueOf", fn := fun _ => fun
  | [d1, d2] => { results := [.lit (.bool false)], args := [d1, d2] }
  | _ => none }
def FnExactValueOfWrongFalsely : Prop := fnExactValueOfRow.holds Try.pinned (OpenSpec.ofChange fnExactValueOfWrong)

/-- 'laws.FnExactAddMirrors': WHATEVER THE INPUT: true; the input reads as it did. -/
def fnExactAddMirrorsSpec : ChangeSpec := { name := "fnExactAddMirrors", fn := fun _ => fun
  | [d1, d2] => { results := [.lit (.bool true)], args := [d1, d2] }
  | _ => none }
def fnExactAddMirrorsRow : OpenClaim := { program := "ytepobckhfodngai", sum := "e2f0ecab60e99d83f3d222f43afb616ba24282390b4d6044f6bb2b4a02eb4cb7", func := "loop.example/g00525/laws.FnExactAddMirrors", spec := "fnExactAddMirrors", unfollowed := true, recurses := true, apart := false }
def FnExactAddMirrorsSaid : Prop := fnExactAddMirrorsRow.holds Try.pinned (OpenSpec.ofChange fnExactAddMirrorsSpec)

/-- ITS FALSE NEIGHBOUR: 'it returns false'. Refute it at one input. -/
def fnExactAddMirrorsWrong : ChangeSpec := { name := "fnExactAddMirrors", fn := fun _ => fun
  | [d1, d2] => { results := [.lit (.bool false)], args := [d1, d2] }
  | _ => none }
def FnExactAddMirrorsWrongFalsely : Prop := fnExactAddMirrorsRow.holds Try.pinned (OpenSpec.ofChange fnExactAddMirrorsWrong)

/- THE SECOND FORM. 'bulk': how many values and letters a reading holds, each counted each time it is reached (what is shared counts as often as it is met; a slice's spare places count too). A statement '..UptoSaid' is the law's where the arguments, and the package variables that the reading takes, are together of bulk at most 1048576: NARROWER than '..Said'. Prove '..Said' where nothing that the law and all that it calls make is longer than what came in: it says more and counts as full. Else prove '..UptoSaid'. A law counts once. -/
mutual
def uptoBulk {H : Type} : DataW H → Nat
  | .lit (.string bytes) => bytes.length + 1
  | .lit _ => 1
  | .nil => 1
  | .ptr d => uptoBulk d + 1
  | .slice elems spare => uptoBulkAll elems + uptoBulkAll spare + 1
  | .agg parts => uptoBulkAll parts + 1
  | .iface _ d => uptoBulk d + 1
  | .map entries => uptoBulkEntries entries + 1
  | .held _ => 1
def uptoBulkAll {H : Type} : List (DataW H) → Nat
  | [] => 0
  | d :: r => uptoBulk d + uptoBulkAll r
def uptoBulkEntries {H : Type} : List (Lit × DataW H) → Nat
  | [] => 0
  | x :: r => uptoBulkEntry x + uptoBulkEntries r
def uptoBulkEntry {H : Type} : Lit × DataW H → Nat
  | (.string bytes, d) => bytes.length + uptoBulk d + 1
  | (_, d) => uptoBulk d + 1
 end
def uptoSmall : (H : Type) → List (DataW H) → Bool := fun _ ds => decide (uptoBulkAll ds ≤ 1048576)
def OpenSpec.upto (s : _root_.Go.ChangeSpec) : _root_.Go.OpenSpec := { _root_.Go.OpenSpec.ofChange s with cond := some uptoSmall }

/-- 'laws.FnExactSameTapes', WHERE WHAT IT READS IS OF BULK AT MOST 1048576: true; the input reads as it did. -/
def fnExactSameTapesUptoRow : OpenClaim := { program := "ytepobckhfodngai", sum := "e2f0ecab60e99d83f3d222f43afb616ba24282390b4d6044f6bb2b4a02eb4cb7", func := "loop.example/g00525/laws.FnExactSameTapes", spec := "fnExactSameTapes", unfollowed := true, recurses := true, apart := false, narrowed := true }
def FnExactSameTapesUptoSaid : Prop := fnExactSameTapesUptoRow.holds Try.pinned (OpenSpec.upto fnExactSameTapesSpec)

/-- 'laws.FnExactMirrorFault', WHERE WHAT IT READS IS OF BULK AT MOST 1048576: true; the input reads as it did. -/
def fnExactMirrorFaultUptoRow : OpenClaim := { program := "ytepobckhfodngai", sum := "e2f0ecab60e99d83f3d222f43afb616ba24282390b4d6044f6bb2b4a02eb4cb7", func := "loop.example/g00525/laws.FnExactMirrorFault", spec := "fnExactMirrorFault", apart := false, narrowed := true }
def FnExactMirrorFaultUptoSaid : Prop := fnExactMirrorFaultUptoRow.holds Try.pinned (OpenSpec.upto fnExactMirrorFaultSpec)

/-- 'laws.FnExactMirrorOf', WHERE WHAT IT READS IS OF BULK AT MOST 1048576: true; the input reads as it did. -/
def fnExactMirrorOfUptoRow : OpenClaim := { program := "ytepobckhfodngai", sum := "e2f0ecab60e99d83f3d222f43afb616ba24282390b4d6044f6bb2b4a02eb4cb7", func := "loop.example/g00525/laws.FnExactMirrorOf", spec := "fnExactMirrorOf", apart := false, narrowed := true }
def FnExactMirrorOfUptoSaid : Prop := fnExactMirrorOfUptoRow.holds Try.pinned (OpenSpec.upto fnExactMirrorOfSpec)

/-- 'laws.FnExactIsAlike', WHERE WHAT IT READS IS OF BULK AT MOST 1048576: true; the input reads as it did. -/
def fnExactIsAlikeUptoRow : OpenClaim := { program := "ytepobckhfodngai", sum := "e2f0ecab60e99d83f3d222f43afb616ba24282390b4d6044f6bb2b4a02eb4cb7", func := "loop.example/g00525/laws.FnExactIsAlike", spec := "fnExactIsAlike", apart := false, narrowed := true }
def FnExactIsAlikeUptoSaid : Prop := fnExactIsAlikeUptoRow.holds Try.pinned (OpenSpec.upto fnExactIsAlikeSpec)

/-- 'laws.FnExactValueOf', WHERE WHAT IT READS IS OF BULK AT MOST 1048576: true; the input reads as it did. -/
def fnExactValueOfUptoRow : OpenClaim := { program := "ytepobckhfodngai", sum := "e2f0ecab60e99d83f3d222f43afb616ba24282390b4d6044f6bb2b4a02eb4cb7", func := "loop.example/g00525/laws.FnExactValueOf", spec := "fnExactValueOf", apart := false, narrowed := true }
def FnExactValueOfUptoSaid : Prop := fnExactValueOfUptoRow.holds Try.pinned (OpenSpec.upto fnExactValueOfSpec)

/-- 'laws.FnExactAddMirrors', WHERE WHAT IT READS IS OF BULK AT MOST 1048576: true; the input reads as it did. -/
def fnExactAddMirrorsUptoRow : OpenClaim := { program := "ytepobckhfodngai", sum := "e2f0ecab60e99d83f3d222f43afb616ba24282390b4d6044f6bb2b4a02eb4cb7", func := "loop.example/g00525/laws.FnExactAddMirrors", spec := "fnExactAddMirrors", unfollowed := true, recurses := true, apart := false, narrowed := true }
def FnExactAddMirrorsUptoSaid : Prop := fnExactAddMirrorsUptoRow.holds Try.pinned (OpenSpec.upto fnExactAddMirrorsSpec)

end Rows
end Go.Proofs.Ytepobckhfodngai
