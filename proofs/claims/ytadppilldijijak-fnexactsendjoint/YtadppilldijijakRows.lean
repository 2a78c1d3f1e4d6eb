/-
  No cell of these rows narrows 'for every input' (looked for: loops, veiled, ifaces, maps, wideKeys, modest, calm, conditions, laid).
  DERIVED. THE GIVEN ROWS OF THIS SEAT. 5 by the template 'for every input the law returns true; each argument reads behind the call as it read before'; 0 by the template 'total and deterministic' (their statements: YtadppilldijijakTotals.lean).
  GIVEN WITH THE SEED: the statements are not yours to turn. If you find one false, say at which input.
  Laid BY PROGRAM, IN A SANDBOX (cutbox-rows.mjs): the forced cells as the released guide's own fill.sh prints them over the translation b7bad9d1d998d008… (all of the seat's roots in one cut). By AI agents, Wed Nov 11 2026. No macro, syntax, notation, axiom, sorry.
-/
import Derived.Test.YtadppilldijijakChecked
import GoSem.Claim
import GoSem.ClaimJoined
import GoSem.ClaimMapViews
import Derived.JoinedTies
import Derived.KernelRfl
namespace Go.Proofs.Ytadppilldijijak
/- THE CELL 'sum', in the pinned program and in every row, IS THE sha256 OF THE DUMP (.gsa) THAT YtadppilldijijakProg.lean LOADS. Nothing in Lean hashes anything: it is a label: what it is worth is what the hold of that sum in a sandbox is worth. -/
noncomputable def Try.pinned : Pinned := { name := "ytadppilldijijak", sum := "b7bad9d1d998d00844a37a93d0b8d9449f87401e40f0233970bf9e29b272c9f1", checked := Try.checked }
namespace Rows
def none {H : Type} : Left H := { results := [], args := [] }

/-- 'laws.FnExactSendJoint': WHATEVER THE INPUT: true; the input reads as it did. -/
def fnExactSendJointSpec : ChangeSpec := { name := "fnExactSendJoint", fn := fun _ => fun
  | [d1, d2, d3, d4, d5, d6, d7] => { results := [.lit (.bool true)], args := [d1, d2, d3, d4, d5, d6, d7] }
  | _ => none }
def fnExactSendJointRow : OpenClaim := { program := "ytadppilldijijak", sum := "b7bad9d1d998d00844a37a93d0b8d9449f87401e40f0233970bf9e29b272c9f1", func := "loop.example/g00525/laws.FnExactSendJoint", spec := "fnExactSendJoint", unfollowed := true, recurses := true, apart := false }
def FnExactSendJointSaid : Prop := fnExactSendJointRow.holds Try.pinned (OpenSpec.ofChange fnExactSendJointSpec)

/-- ITS FALSE NEIGHBOUR: 'it returns false'. Refute it at one input. -/
def fnExactSendJointWrong : ChangeSpec := { name := "fnExactSendJoint", fn := fun _ => fun
  | [d1, d2, d3, d4, d5, d6, d7] => { results := [.lit (.bool false)], args := [d1, d2, d3, d4, d5, d6, d7] }
  | _ => none }
def FnExactSendJointWrongFalsely : Prop := fnExactSendJointRow.holds Try.pinned (OpenSpec.ofChange fnExactSendJointWrong)

/-- 'laws.FnExactJudgeQuarrel': WHATEVER THE INPUT: true; the input reads as it did. -/
def fnExactJudgeQuarrelSpec : ChangeSpec := { name := "fnExactJudgeQuarrel", fn := fun _ => fun
  | [d] => { results := [.lit (.bool true)], args := [d] }
  | _ => none }
def fnExactJudgeQuarrelRow : OpenClaim := { program := "ytadppilldijijak", sum := "b7bad9d1d998d00844a37a93d0b8d9449f87401e40f0233970bf9e29b272c9f1", func := "loop.example/g00525/laws.FnExactJudgeQuarrel", spec := "fnExactJudgeQuarrel", apart := false }
def FnExactJudgeQuarrelSaid : Prop := fnExactJudgeQuarrelRow.holds Try.pinned (OpenSpec.ofChange fnExactJudgeQuarrelSpec)

/-- ITS FALSE NEIGHBOUR: 'it returns false'. Refute it at one input. -/
def fnExactJudgeQuarrelWrong : ChangeSpec := { name := "fnExactJudgeQuarrel", fn := fun _ => fun
  | [d] => { results := [.lit (.bool false)], args := [d] }
  | _ => none }
def FnExactJudgeQuarrelWrongFalsely : Prop := fnExactJudgeQuarrelRow.holds Try.pinned (OpenSpec.ofChange fnExactJudgeQuarrelWrong)

/-- 'laws.FnExactTrustedOf': WHATEVER THE INPUT: true; the input reads as it did. -/
def fnExactTrustedOfSpec : ChangeSpec := { name := "fnExactTrustedOf", fn := fun _ => fun
  | [d] => { results := [.lit (.bool true)], args := [d] }
  | _ => none }
def fnExactTrustedOfRow : OpenClaim := { program := "ytadppilldijijak", sum := "b7bad9d1d998d00844a37a93d0b8d9449f87401e40f0233970bf9e29b272c9f1", func := "loop.example/g00525/laws.FnExactTrustedOf", spec := "fnExactTrustedOf", apart := false }
def FnExactTrustedOfSaid : Prop := fnExactTrustedOfRow.holds Try.pinned (OpenSpec.ofChange fnExactTrustedOfSpec)

/-- ITS FALSE NEIGHBOUR: 'it returns false'. Refute it at one input. -/
def fnExactTrustedOfWrong : ChangeSpec := { name := "fnExactTrustedOf", fn := fun _ => fun
  | [d] => { results := [.lit (.bool false)], args := [d] }
  | _ => none }
def FnExactTrustedOfWrongFalsely : Prop := fnExactTrustedOfRow.holds Try.pinned (OpenSpec.ofChange fnExactTrustedOfWrong)

/-- 'laws.FnExactCheatFault': WHATEVER THE INPUT: true; the input reads as it did. -/
def fnExactCheatFaultSpec : ChangeSpec := { name := "fnExactCheatFault", fn := fun _ => fun
  | [d] => { results := [.lit (.bool true)], args := [d] }
  | _ => none }
def fnExactCheatFaultRow : OpenClaim := { program := "ytadppilldijijak", sum := "b7bad9d1d998d00844a37a93d0b8d9449f87401e40f0233970bf9e29b272c9f1", func := "loop.example/g00525/laws.FnExactCheatFault", spec := "fnExactCheatFault", apart := false }
def FnExactCheatFaultSaid : Prop := fnExactCheatFaultRow.holds Try.pinned (OpenSpec.ofChange fnExactCheatFaultSpec)

/-- ITS FALSE NEIGHBOUR: 'it returns false'. Refute it at one input. -/
def fnExactCheatFaultWrong : ChangeSpec := { name := "fnExactCheatFault", fn := fun _ => fun
  | [d] => { results := [.lit (.bool false)], args := [d] }
  | _ => none }
def FnExactCheatFaultWrongFalsely : Prop := fnExactCheatFaultRow.holds Try.pinned (OpenSpec.ofChange fnExactCheatFaultWrong)

/-- 'laws.FnExactCrossOf': WHATEVER THE INPUT: true; the input reads as it did. -/
def fnExactCrossOfSpec : ChangeSpec := { name := "fnExactCrossOf", fn := fun _ => fun
  | [d1, d2, d3, d4, d5] => { results := [.lit (.bool true)], args := [d1, d2, d3, d4, d5] }
  | _ => none }
def fnExactCrossOfRow : OpenClaim := { program := "ytadppilldijijak", sum := "b7bad9d1d998d00844a37a93d0b8d9449f87401e40f0233970bf9e29b272c9f1", func := "loop.example/g00525/laws.FnExactCrossOf", spec := "fnExactCrossOf", apart := false }
def FnExactCrossOfSaid : Prop := fnExactCrossOfRow.holds Try.pinned (OpenSpec.ofChange fnExactCrossOfSpec)

/-- ITS FALSE NEIGHBOUR: 'it returns false'. Refute it at one input. -/
def fnExactCrossOfWrong : ChangeSpec := { name := "fnExactCrossOf", fn := fun _ => fun
  | [d1, d2, d3, d4, d5] => { results := [.lit (.bool false)], args := [d1, d2, d3, d4, d5] }
  | _ => none }
def FnExactCrossOfWrongFalsely : Prop := fnExactCrossOfRow.holds Try.pinned (OpenSpec.ofChange fnExactCrossOfWrong)

/- THE SECOND FORM. 'bulk': how many values and letters a reading holds, each counted each time it is reached (what is shared counts as often as it is met; a slice's spare places count too). A statement '..UptoSaid' is the law's where the arguments, and the package variables that the reading takes, are together of bulk at most 1048576: NARROWER than '..Said'. Prove '..Said' where nothing that the law and all that it calls make is longer than what came in: it says more and counts as full. Else prove '..UptoSaid'. A law counts once. -/
mutual
def uptoBulk {H : Type} : DataW H → Nat
  | .lit (.string bytes) => bytes.length + 1
  | .lit _ => 1
  | .nil => 1
  | .ptr d => uptoBulk d + 1
  | .slice elems spare => uptoBulkAll elems + uptoBulkAll spare + 1
  | .agg parts => uptoBulkAll parts + 1
  | .iface _ d => uptoBulk d + 1
  | .map entries => uptoBulkEntries entries + 1
  | .held _ => 1
def uptoBulkAll {H : Type} : List (DataW H) → Nat
  | [] => 0
  | d :: r => uptoBulk d + uptoBulkAll r
def uptoBulkEntries {H : Type} : List (Lit × DataW H) → Nat
  | [] => 0
  | x :: r => uptoBulkEntry x + uptoBulkEntries r
def uptoBulkEntry {H : Type} : Lit × DataW H → Nat
  | (.string bytes, d) => bytes.length + uptoBulk d + 1
  | (_, d) => uptoBulk d + 1
 end
def uptoSmall : (H : Type) → List (DataW H) → Bool := fun _ ds => decide (uptoBulkAll ds ≤ 1048576)
def OpenSpec.upto (s : _root_.Go.ChangeSpec) : _root_.Go.OpenSpec := { _root_.Go.OpenSpec.ofChange s with cond := some uptoSmall }

/-- 'laws.FnExactSendJoint', WHERE WHAT IT READS IS OF BULK AT MOST 1048576: true; the input reads as it did. -/
def fnExactSendJointUptoRow : OpenClaim := { program := "ytadppilldijijak", sum := "b7bad9d1d998d00844a37a93d0b8d9449f87401e40f0233970bf9e29b272c9f1", func := "loop.example/g00525/laws.FnExactSendJoint", spec := "fnExactSendJoint", unfollowed := true, recurses := true, apart := false, narrowed := true }
def FnExactSendJointUptoSaid : Prop := fnExactSendJointUptoRow.holds Try.pinned (OpenSpec.upto fnExactSendJointSpec)

/-- 'laws.FnExactJudgeQuarrel', WHERE WHAT IT READS IS OF BULK AT MOST 1048576: true; the input reads as it did. -/
def fnExactJudgeQuarrelUptoRow : OpenClaim := { program := "ytadppilldijijak", sum := "b7bad9d1d998d00844a37a93d0b8d9449f87401e40f0233970bf9e29b272c9f1", func := "loop.example/g00525/laws.FnExactJudgeQuarrel", spec := "fnExactJudgeQuarrel", apart := false, narrowed := true }
def FnExactJudgeQuarrelUptoSaid : Prop := fnExactJudgeQuarrelUptoRow.holds Try.pinned (OpenSpec.upto fnExactJudgeQuarrelSpec)

/-- 'laws.FnExactTrustedOf', WHERE WHAT IT READS IS OF BULK AT MOST 1048576: true; the input reads as it did. -/
def fnExactTrustedOfUptoRow : OpenClaim := { program := "ytadppilldijijak", sum := "b7bad9d1d998d00844a37a93d0b8d9449f87401e40f0233970bf9e29b272c9f1", func := "loop.example/g00525/laws.FnExactTrustedOf", spec := "fnExactTrustedOf", apart := false, narrowed := true }
def FnExactTrustedOfUptoSaid : Prop := fnExactTrustedOfUptoRow.holds Try.pinned (OpenSpec.upto fnExactTrustedOfSpec)

/-- 'laws.FnExactCheatFault', WHERE WHAT IT READS IS OF BULK AT MOST 1048576: true; the input reads as it did. -/
def fnExactCheatFaultUptoRow : OpenClaim := { program := "ytadppilldijijak", sum := "b7bad9d1d998d00844a37a93d0b8d9449f87401e40f0233970bf9e29b272c9f1", func := "loop.example/g00525/laws.FnExactCheatFault", spec := "fnExactCheatFault", apart := false, narrowed := true }
def FnExactCheatFaultUptoSaid : Prop := fnExactCheatFaultUptoRow.holds Try.pinned (OpenSpec.upto fnExactCheatFaultSpec)

/-- 'laws.FnExactCrossOf', WHERE WHAT IT READS IS OF BULK AT MOST 1048576: true; the input reads as it did. -/
def fnExactCrossOfUptoRow : OpenClaim := { program := "ytadppilldijijak", sum := "b7bad9d1d998d00844a37a93d0b8d9449f87401e40f0233970bf9e29b272c9f1", func := "loop.example/g00525/laws.FnExactCrossOf", spec := "fnExactCrossOf", apart := false, narrowed := true }
def FnExactCrossOfUptoSaid : Prop := fnExactCrossOfUptoRow.holds Try.pinned (OpenSpec.upto fnExactCrossOfSpec)

end Rows
end Go.Proofs.Ytadppilldijijak
