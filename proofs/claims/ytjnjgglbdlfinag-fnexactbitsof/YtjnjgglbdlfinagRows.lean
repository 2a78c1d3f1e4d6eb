/-
  No cell of these rows narrows 'for every input' (looked for: loops, veiled, ifaces, maps, wideKeys, modest, calm, conditions, laid).
  DERIVED. THE GIVEN ROWS OF THIS SEAT. 6 by the template 'for every input the law returns true; each argument reads behind the call as it read before'; 0 by the template 'total and deterministic' (their statements: YtjnjgglbdlfinagTotals.lean).
  GIVEN WITH THE SEED: the statements are not yours to turn. If you find one false, say at which input.
  Laid BY PROGRAM, IN A SANDBOX (cutbox-rows.mjs): the forced cells as the released guide's own fill.sh prints them over the translation 66bc2f91a6c6c6fd… (all of the seat's roots in one cut). By AI agents, Wed Nov 11 2026. No macro, syntax, notation, axiom, sorry.
-/
import Derived.Test.YtjnjgglbdlfinagChecked
import GoSem.Claim
import GoSem.ClaimJoined
import GoSem.ClaimMapViews
import Derived.JoinedTies
import Derived.KernelRfl
namespace Go.Proofs.Ytjnjgglbdlfinag
/- THE CELL 'sum', in the pinned program and in every row, IS THE sha256 OF THE DUMP (.gsa) THAT YtjnjgglbdlfinagProg.lean LOADS. Nothing in Lean hashes anything: it is a label: what it is worth is what the hold of that sum in a sandbox is worth. -/
noncomputable def Try.pinned : Pinned := { name := "ytjnjgglbdlfinag", sum := "66bc2f91a6c6c6fd86b1d0fc604441cabd883c38988260269a59aa8713ce2fb7", checked := Try.checked }
namespace Rows
def none {H : Type} : Left H := { results := [], args := [] }

/-- 'laws.FnExactAddRing': WHATEVER THE INPUT: true; the input reads as it did. -/
def fnExactAddRingSpec : ChangeSpec := { name := "fnExactAddRing", fn := fun _ => fun
  | [d1, d2, d3] => { results := [.lit (.bool true)], args := [d1, d2, d3] }
  | _ => none }
def fnExactAddRingRow : OpenClaim := { program := "ytjnjgglbdlfinag", sum := "66bc2f91a6c6c6fd86b1d0fc604441cabd883c38988260269a59aa8713ce2fb7", func := "loop.example/g00525/laws.FnExactAddRing", spec := "fnExactAddRing", apart := false }
def FnExactAddRingSaid : Prop := fnExactAddRingRow.holds Try.pinned (OpenSpec.ofChange fnExactAddRingSpec)

/-- ITS FALSE NEIGHBOUR: 'it returns false'. Refute it at one input. -/
def fnExactAddRingWrong : ChangeSpec := { name := "fnExactAddRing", fn := fun _ => fun
  | [d1, d2, d3] => { results := [.lit (.bool false)], args := [d1, d2, d3] }
  | _ => none }
def FnExactAddRingWrongFalsely : Prop := fnExactAddRingRow.holds Try.pinned (OpenSpec.ofChange fnExactAddRingWrong)

/-- 'laws.FnExactSubRing': WHATEVER THE INPUT: true; the input reads as it did. -/
def fnExactSubRingSpec : ChangeSpec := { name := "fnExactSubRing", fn := fun _ => fun
  | [d1, d2, d3] => { results := [.lit (.bool true)], args := [d1, d2, d3] }
  | _ => none }
def fnExactSubRingRow : OpenClaim := { program := "ytjnjgglbdlfinag", sum := "66bc2f91a6c6c6fd86b1d0fc604441cabd883c38988260269a59aa8713ce2fb7", func := "loop.example/g00525/laws.FnExactSubRing", spec := "fnExactSubRing", apart := false }
def FnExactSubRingSaid : Prop := fnExactSubRingRow.holds Try.pinned (OpenSpec.ofChange fnExactSubRingSpec)

/-- ITS FALSE NEIGHBOUR: 'it returns false'. Refute it at one input. -/
def fnExactSubRingWrong : ChangeSpec := { name := "fnExactSubRing", fn := fun _ => fun
  | [d1, d2, d3] => { results := [.lit (.bool false)], args := [d1, d2, d3] }
  | _ => none }
def FnExactSubRingWrongFalsely : Prop := fnExactSubRingRow.holds Try.pinned (OpenSpec.ofChange fnExactSubRingWrong)

/-- 'laws.FnExactMulRing': WHATEVER THE INPUT: true; the input reads as it did. -/
def fnExactMulRingSpec : ChangeSpec := { name := "fnExactMulRing", fn := fun _ => fun
  | [d1, d2, d3] => { results := [.lit (.bool true)], args := [d1, d2, d3] }
  | _ => none }
def fnExactMulRingRow : OpenClaim := { program := "ytjnjgglbdlfinag", sum := "66bc2f91a6c6c6fd86b1d0fc604441cabd883c38988260269a59aa8713ce2fb7", func := "loop.example/g00525/laws.FnExactMulRing", spec := "fnExactMulRing", apart := false }
def FnExactMulRingSaid : Prop := fnExactMulRingRow.holds Try.pinned (OpenSpec.ofChange fnExactMulRingSpec)

/-- ITS FALSE NEIGHBOUR: 'it returns false'. Refute it at one input. -/
def fnExactMulRingWrong : ChangeSpec := { name := "fnExactMulRing", fn := fun _ => fun
  | [d1, d2, d3] => { results := [.lit (.bool false)], args := [d1, d2, d3] }
  | _ => none }
def FnExactMulRingWrongFalsely : Prop := fnExactMulRingRow.holds Try.pinned (OpenSpec.ofChange fnExactMulRingWrong)

/-- 'laws.FnExactSignedOf': WHATEVER THE INPUT: true; the input reads as it did. -/
def fnExactSignedOfSpec : ChangeSpec := { name := "fnExactSignedOf", fn := fun _ => fun
  | [d] => { results := [.lit (.bool true)], args := [d] }
  | _ => none }
def fnExactSignedOfRow : OpenClaim := { program := "ytjnjgglbdlfinag", sum := "66bc2f91a6c6c6fd86b1d0fc604441cabd883c38988260269a59aa8713ce2fb7", func := "loop.example/g00525/laws.FnExactSignedOf", spec := "fnExactSignedOf", apart := false }
def FnExactSignedOfSaid : Prop := fnExactSignedOfRow.holds Try.pinned (OpenSpec.ofChange fnExactSignedOfSpec)

/-- ITS FALSE NEIGHBOUR: 'it returns false'. Refute it at one input. -/
def fnExactSignedOfWrong : ChangeSpec := { name := "fnExactSignedOf", fn := fun _ => fun
  | [d] => { results := [.lit (.bool false)], args := [d] }
  | _ => none }
def FnExactSignedOfWrongFalsely : Prop := fnExactSignedOfRow.holds Try.pinned (OpenSpec.ofChange fnExactSignedOfWrong)

/-- 'laws.FnExactRingOf': WHATEVER THE INPUT: true; the input reads as it did. -/
def fnExactRingOfSpec : ChangeSpec := { name := "fnExactRingOf", fn := fun _ => fun
  | [d] => { results := [.lit (.bool true)], args := [d] }
  | _ => none }
def fnExactRingOfRow : OpenClaim := { program := "ytjnjgglbdlfinag", sum := "66bc2f91a6c6c6fd86b1d0fc604441cabd883c38988260269a59aa8713ce2fb7", func := "loop.example/g00525/laws.FnExactRingOf", spec := "fnExactRingOf", apart := false }
def FnExactRingOfSaid : Prop := fnExactRingOfRow.holds Try.pinned (OpenSpec.ofChange fnExactRingOfSpec)

/-- ITS FALSE NEIGHBOUR: 'it returns false'. Refute it at one input. -/
def fnExactRingOfWrong : ChangeSpec := { name := "fnExactRingOf", fn := fun _ => fun
  | [d] => { results := [.lit (.bool false)], args := [d] }
  | _ => none }
def FnExactRingOfWrongFalsely : Prop := fnExactRingOfRow.holds Try.pinned (OpenSpec.ofChange fnExactRingOfWrong)

/-- 'laws.FnExactBitsOf': WHATEVER THE INPUT: true; the input reads as it did. -/
def fnExactBitsOfSpec : ChangeSpec := { name := "fnExactBitsOf", fn := fun _ => fun
  | [d] => { results := [.lit (.bool true)], args := [d] }
  | _ => none }
def fnExactBitsOfRow : OpenClaim := { program := "ytjnjgglbdlfinag", sum := "66bc2f91a6c6c6fd86b1d0fc604441cabd883c38988260269a59aa8713ce2fb7", func := "loop.example/g00525/laws.FnExactBitsOf", spec := "fnExactBitsOf", apart := false }
def FnExactBitsOfSaid : Prop := fnExactBitsOfRow.holds Try.pinned (OpenSpec.ofChange fnExactBitsOfSpec)

/-- ITS FALSE NEIGHBOUR: 'it returns false'. Refute it at one input. -/
def fnExactBitsOfWrong : ChangeSpec := { name := "fnExactBitsOf", fn := fun _ => fun
  | [d] => { results := [.lit (.bool false)], args := [d] }
  | _ => none }
def FnExactBitsOfWrongFalsely : Prop := fnExactBitsOfRow.holds Try.pinned (OpenSpec.ofChange fnExactBitsOfWrong)

/- THE SECOND FORM. 'bulk': how many values and letters a reading holds, each counted each time it is reached (what is shared counts as often as it is met; a slice's spare places count too). A statement '..UptoSaid' is the law's where the arguments, and the package variables that the reading takes, are together of bulk at most 1048576: NARROWER than '..Said'. Prove '..Said' where nothing that the law and all that it calls make is longer than what came in: it says more and counts as full. Else prove '..UptoSaid'. A law counts once. -/
mutual
def uptoBulk {H : Type} : DataW H → Nat
  | .lit (.string bytes) => bytes.length + 1
  | .lit _ => 1
  | .nil => 1
  | .ptr d => uptoBulk d + 1
  | .slice elems spare => uptoBulkAll elems + uptoBulkAll spare + 1
  | .agg parts => uptoBulkAll parts + 1
  | .iface _ d => uptoBulk d + 1
  | .map entries => uptoBulkEntries entries + 1
  | .held _ => 1
def uptoBulkAll {H : Type} : List (DataW H) → Nat
  | [] => 0
  | d :: r => uptoBulk d + uptoBulkAll r
def uptoBulkEntries {H : Type} : List (Lit × DataW H) → Nat
  | [] => 0
  | x :: r => uptoBulkEntry x + uptoBulkEntries r
def uptoBulkEntry {H : Type} : Lit × DataW H → Nat
  | (.string bytes, d) => bytes.length + uptoBulk d + 1
  | (_, d) => uptoBulk d + 1
 end
def uptoSmall : (H : Type) → List (DataW H) → Bool := fun _ ds => decide (uptoBulkAll ds ≤ 1048576)
def OpenSpec.upto (s : _root_.Go.ChangeSpec) : _root_.Go.OpenSpec := { _root_.Go.OpenSpec.ofChange s with cond := some uptoSmall }

/-- 'laws.FnExactAddRing', WHERE WHAT IT READS IS OF BULK AT MOST 1048576: true; the input reads as it did. -/
def fnExactAddRingUptoRow : OpenClaim := { program := "ytjnjgglbdlfinag", sum := "66bc2f91a6c6c6fd86b1d0fc604441cabd883c38988260269a59aa8713ce2fb7", func := "loop.example/g00525/laws.FnExactAddRing", spec := "fnExactAddRing", apart := false, narrowed := true }
def FnExactAddRingUptoSaid : Prop := fnExactAddRingUptoRow.holds Try.pinned (OpenSpec.upto fnExactAddRingSpec)

/-- 'laws.FnExactSubRing', WHERE WHAT IT READS IS OF BULK AT MOST 1048576: true; the input reads as it did. -/
def fnExactSubRingUptoRow : OpenClaim := { program := "ytjnjgglbdlfinag", sum := "66bc2f91a6c6c6fd86b1d0fc604441cabd883c38988260269a59aa8713ce2fb7", func := "loop.example/g00525/laws.FnExactSubRing", spec := "fnExactSubRing", apart := false, narrowed := true }
def FnExactSubRingUptoSaid : Prop := fnExactSubRingUptoRow.holds Try.pinned (OpenSpec.upto fnExactSubRingSpec)

/-- 'laws.FnExactMulRing', WHERE WHAT IT READS IS OF BULK AT MOST 1048576: true; the input reads as it did. -/
def fnExactMulRingUptoRow : OpenClaim := { program := "ytjnjgglbdlfinag", sum := "66bc2f91a6c6c6fd86b1d0fc604441cabd883c38988260269a59aa8713ce2fb7", func := "loop.example/g00525/laws.FnExactMulRing", spec := "fnExactMulRing", apart := false, narrowed := true }
def FnExactMulRingUptoSaid : Prop := fnExactMulRingUptoRow.holds Try.pinned (OpenSpec.upto fnExactMulRingSpec)

/-- 'laws.FnExactSignedOf', WHERE WHAT IT READS IS OF BULK AT MOST 1048576: true; the input reads as it did. -/
def fnExactSignedOfUptoRow : OpenClaim := { program := "ytjnjgglbdlfinag", sum := "66bc2f91a6c6c6fd86b1d0fc604441cabd883c38988260269a59aa8713ce2fb7", func := "loop.example/g00525/laws.FnExactSignedOf", spec := "fnExactSignedOf", apart := false, narrowed := true }
def FnExactSignedOfUptoSaid : Prop := fnExactSignedOfUptoRow.holds Try.pinned (OpenSpec.upto fnExactSignedOfSpec)

/-- 'laws.FnExactRingOf', WHERE WHAT IT READS IS OF BULK AT MOST 1048576: true; the input reads as it did. -/
def fnExactRingOfUptoRow : OpenClaim := { program := "ytjnjgglbdlfinag", sum := "66bc2f91a6c6c6fd86b1d0fc604441cabd883c38988260269a59aa8713ce2fb7", func := "loop.example/g00525/laws.FnExactRingOf", spec := "fnExactRingOf", apart := false, narrowed := true }
def FnExactRingOfUptoSaid : Prop := fnExactRingOfUptoRow.holds Try.pinned (OpenSpec.upto fnExactRingOfSpec)

/-- 'laws.FnExactBitsOf', WHERE WHAT IT READS IS OF BULK AT MOST 1048576: true; the input reads as it did. -/
def fnExactBitsOfUptoRow : OpenClaim := { program := "ytjnjgglbdlfinag", sum := "66bc2f91a6c6c6fd86b1d0fc604441cabd883c38988260269a59aa8713ce2fb7", func := "loop.example/g00525/laws.FnExactBitsOf", spec := "fnExactBitsOf", apart := false, narrowed := true }
def FnExactBitsOfUptoSaid : Prop := fnExactBitsOfUptoRow.holds Try.pinned (OpenSpec.upto fnExactBitsOfSpec)

end Rows
end Go.Proofs.Ytjnjgglbdlfinag
