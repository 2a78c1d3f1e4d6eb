/-
  No cell of these rows narrows 'for every input' (looked for: loops, veiled, ifaces, maps, wideKeys, modest, calm, conditions, laid).
  DERIVED. THE GIVEN ROWS OF THIS SEAT. 6 by the template 'for every input the law returns true; each argument reads behind the call as it read before'; 0 by the template 'total and deterministic' (their statements: YtadppilldijijahTotals.lean).
  GIVEN WITH THE SEED: the statements are not yours to turn. If you find one false, say at which input.
  Laid BY PROGRAM, IN A SANDBOX (cutbox-rows.mjs): the forced cells as the released guide's own fill.sh prints them over the translation b71ecb00c6a2ad6b… (all of the seat's roots in one cut). By AI agents, Wed Nov 11 2026. No macro, syntax, notation, axiom, sorry.
-/
import Derived.Test.YtadppilldijijahChecked
import GoSem.Claim
import GoSem.ClaimJoined
import GoSem.ClaimMapViews
import Derived.JoinedTies
import Derived.KernelRfl
namespace Go.Proofs.Ytadppilldijijah
/- THE CELL 'sum', in the pinned program and in every row, IS THE sha256 OF THE DUMP (.gsa) THAT YtadppilldijijahProg.lean LOADS. Nothing in Lean hashes anything: it is a label: what it is worth is what the hold of that sum in a sandbox is worth. -/
noncomputable def Try.pinned : Pinned := { name := "ytadppilldijijah", sum := "b71ecb00c6a2ad6b474e5efca532e465e4d2b10f8164a5cb0aa4a70784617b01", checked := Try.checked }
namespace Rows
def none {H : Type} : Left H := { results := [], args := [] }

/-- 'laws.FnExactFromBits': WHATEVER THE INPUT: true; the input reads as it did. -/
def fnExactFromBitsSpec : ChangeSpec := { name := "fnExactFromBits", fn := fun _ => fun
  | [d] => { results := [.lit (.bool true)], args := [d] }
  | _ => none }
def fnExactFromBitsRow : OpenClaim := { program := "ytadppilldijijah", sum := "b71ecb00c6a2ad6b474e5efca532e465e4d2b10f8164a5cb0aa4a70784617b01", func := "loop.example/g00525/laws.FnExactFromBits", spec := "fnExactFromBits", apart := false }
def FnExactFromBitsSaid : Prop := fnExactFromBitsRow.holds Try.pinned (OpenSpec.ofChange fnExactFromBitsSpec)

/-- ITS FALSE NEIGHBOUR: 'it returns false'. Refute it at one input. -/
def fnExactFromBitsWrong : ChangeSpec := { name := "fnExactFromBits", fn := fun _ => fun
  | [d] => { results := [.lit (.bool false)], args := [d] }
  | _ => none }
def FnExactFromBitsWrongFalsely : Prop := fnExactFromBitsRow.holds Try.pinned (OpenSpec.ofChange fnExactFromBitsWrong)

/-- 'laws.FnExactMajorityOf': WHATEVER THE INPUT: true; the input reads as it did. -/
def fnExactMajorityOfSpec : ChangeSpec := { name := "fnExactMajorityOf", fn := fun _ => fun
  | [d] => { results := [.lit (.bool true)], args := [d] }
  | _ => none }
def fnExactMajorityOfRow : OpenClaim := { program := "ytadppilldijijah", sum := "b71ecb00c6a2ad6b474e5efca532e465e4d2b10f8164a5cb0aa4a70784617b01", func := "loop.example/g00525/laws.FnExactMajorityOf", spec := "fnExactMajorityOf", apart := false }
def FnExactMajorityOfSaid : Prop := fnExactMajorityOfRow.holds Try.pinned (OpenSpec.ofChange fnExactMajorityOfSpec)

/-- ITS FALSE NEIGHBOUR: 'it returns false'. Refute it at one input. -/
def fnExactMajorityOfWrong : ChangeSpec := { name := "fnExactMajorityOf", fn := fun _ => fun
  | [d] => { results := [.lit (.bool false)], args := [d] }
  | _ => none }
def FnExactMajorityOfWrongFalsely : Prop := fnExactMajorityOfRow.holds Try.pinned (OpenSpec.ofChange fnExactMajorityOfWrong)

/-- 'laws.FnExactTapeFault': WHATEVER THE INPUT: true; the input reads as it did. -/
def fnExactTapeFaultSpec : ChangeSpec := { name := "fnExactTapeFault", fn := fun _ => fun
  | [d] => { results := [.lit (.bool true)], args := [d] }
  | _ => none }
def fnExactTapeFaultRow : OpenClaim := { program := "ytadppilldijijah", sum := "b71ecb00c6a2ad6b474e5efca532e465e4d2b10f8164a5cb0aa4a70784617b01", func := "loop.example/g00525/laws.FnExactTapeFault", spec := "fnExactTapeFault", apart := false }
def FnExactTapeFaultSaid : Prop := fnExactTapeFaultRow.holds Try.pinned (OpenSpec.ofChange fnExactTapeFaultSpec)

/-- ITS FALSE NEIGHBOUR: 'it returns false'. Refute it at one input. -/
def fnExactTapeFaultWrong : ChangeSpec := { name := "fnExactTapeFault", fn := fun _ => fun
  | [d] => { results := [.lit (.bool false)], args := [d] }
  | _ => none }
def FnExactTapeFaultWrongFalsely : Prop := fnExactTapeFaultRow.holds Try.pinned (OpenSpec.ofChange fnExactTapeFaultWrong)

/-- 'laws.FnExactSeedTape': WHATEVER THE INPUT: true; the input reads as it did. -/
def fnExactSeedTapeSpec : ChangeSpec := { name := "fnExactSeedTape", fn := fun _ => fun
  | [d1, d2] => { results := [.lit (.bool true)], args := [d1, d2] }
  | _ => none }
def fnExactSeedTapeRow : OpenClaim := { program := "ytadppilldijijah", sum := "b71ecb00c6a2ad6b474e5efca532e465e4d2b10f8164a5cb0aa4a70784617b01", func := "loop.example/g00525/laws.FnExactSeedTape", spec := "fnExactSeedTape", unfollowed := true, recurses := true, apart := false }
def FnExactSeedTapeSaid : Prop := fnExactSeedTapeRow.holds Try.pinned (OpenSpec.ofChange fnExactSeedTapeSpec)

/-- ITS FALSE NEIGHBOUR: 'it returns false'. Refute it at one input. -/
def fnExactSeedTapeWrong : ChangeSpec := { name := "fnExactSeedTape", fn := fun _ => fun
  | [d1, d2] => { results := [.lit (.bool false)], args := [d1, d2] }
  | _ => none }
def FnExactSeedTapeWrongFalsely : Prop := fnExactSeedTapeRow.holds Try.pinned (OpenSpec.ofChange fnExactSeedTapeWrong)

/-- 'laws.FnExactWordAt': WHATEVER THE INPUT: true; the input reads as it did. -/
def fnExactWordAtSpec : ChangeSpec := { name := "fnExactWordAt", fn := fun _ => fun
  | [d1, d2, d3] => { results := [.lit (.bool true)], args := [d1, d2, d3] }
  | _ => none }
def fnExactWordAtRow : OpenClaim := { program := "ytadppilldijijah", sum := "b71ecb00c6a2ad6b474e5efca532e465e4d2b10f8164a5cb0aa4a70784617b01", func := "loop.example/g00525/laws.FnExactWordAt", spec := "fnExactWordAt", apart := false }
def FnExactWordAtSaid : Prop := fnExactWordAtRow.holds Try.pinned (OpenSpec.ofChange fnExactWordAtSpec)

/-- ITS FALSE NEIGHBOUR: 'it returns false'. Refute it at one input. -/
def fnExactWordAtWrong : ChangeSpec := { name := "fnExactWordAt", fn := fun _ => fun
  | [d1, d2, d3] => { results := [.lit (.bool false)], args := [d1, d2, d3] }
  | _ => none }
def FnExactWordAtWrongFalsely : Prop := fnExactWordAtRow.holds Try.pinned (OpenSpec.ofChange fnExactWordAtWrong)

/-- 'laws.FnExactTapeFor': WHATEVER THE INPUT: true; the input reads as it did. -/
def fnExactTapeForSpec : ChangeSpec := { name := "fnExactTapeFor", fn := fun _ => fun
  | [d1, d2] => { results := [.lit (.bool true)], args := [d1, d2] }
  | _ => none }
def fnExactTapeForRow : OpenClaim := { program := "ytadppilldijijah", sum := "b71ecb00c6a2ad6b474e5efca532e465e4d2b10f8164a5cb0aa4a70784617b01", func := "loop.example/g00525/laws.FnExactTapeFor", spec := "fnExactTapeFor", apart := false }
def FnExactTapeForSaid : Prop := fnExactTapeForRow.holds Try.pinned (OpenSpec.ofChange fnExactTapeForSpec)

/-- ITS FALSE NEIGHBOUR: 'it returns false'. Refute it at one input. -/
def fnExactTapeForWrong : ChangeSpec := { name := "fnExactTapeFor", fn := fun _ => fun
  | [d1, d2] => { results := [.lit (.bool false)], args := [d1, d2] }
  | _ => none }
def FnExactTapeForWrongFalsely : Prop := fnExactTapeForRow.holds Try.pinned (OpenSpec.ofChange fnExactTapeForWrong)

/- THE SECOND FORM. 'bulk': how many values and letters a reading holds, each counted each time it is reached (what is shared counts as often as it is met; a slice's spare places count too). A statement '..UptoSaid' is the law's where the arguments, and the package variables that the reading takes, are together of bulk at most 1048576: NARROWER than '..Said'. Prove '..Said' where nothing that the law and all that it calls make is longer than what came in: it says more and counts as full. Else prove '..UptoSaid'. A law counts once. -/
mutual
def uptoBulk {H : Type} : DataW H → Nat
  | .lit (.string bytes) => bytes.length + 1
  | .lit _ => 1
  | .nil => 1
  | .ptr d => uptoBulk d + 1
  | .slice elems spare => uptoBulkAll elems + uptoBulkAll spare + 1
  | .agg parts => uptoBulkAll parts + 1
  | .iface _ d => uptoBulk d + 1
  | .map entries => uptoBulkEntries entries + 1
  | .held _ => 1
def uptoBulkAll {H : Type} : List (DataW H) → Nat
  | [] => 0
  | d :: r => uptoBulk d + uptoBulkAll r
def uptoBulkEntries {H : Type} : List (Lit × DataW H) → Nat
  | [] => 0
  | x :: r => uptoBulkEntry x + uptoBulkEntries r
def uptoBulkEntry {H : Type} : Lit × DataW H → Nat
  | (.string bytes, d) => bytes.length + uptoBulk d + 1
  | (_, d) => uptoBulk d + 1
 end
def uptoSmall : (H : Type) → List (DataW H) → Bool := fun _ ds => decide (uptoBulkAll ds ≤ 1048576)
def OpenSpec.upto (s : _root_.Go.ChangeSpec) : _root_.Go.OpenSpec := { _root_.Go.OpenSpec.ofChange s with cond := some uptoSmall }

/-- 'laws.FnExactFromBits', WHERE WHAT IT READS IS OF BULK AT MOST 1048576: true; the input reads as it did. -/
def fnExactFromBitsUptoRow : OpenClaim := { program := "ytadppilldijijah", sum := "b71ecb00c6a2ad6b474e5efca532e465e4d2b10f8164a5cb0aa4a70784617b01", func := "loop.example/g00525/laws.FnExactFromBits", spec := "fnExactFromBits", apart := false, narrowed := true }
def FnExactFromBitsUptoSaid : Prop := fnExactFromBitsUptoRow.holds Try.pinned (OpenSpec.upto fnExactFromBitsSpec)

/-- 'laws.FnExactMajorityOf', WHERE WHAT IT READS IS OF BULK AT MOST 1048576: true; the input reads as it did. -/
def fnExactMajorityOfUptoRow : OpenClaim := { program := "ytadppilldijijah", sum := "b71ecb00c6a2ad6b474e5efca532e465e4d2b10f8164a5cb0aa4a70784617b01", func := "loop.example/g00525/laws.FnExactMajorityOf", spec := "fnExactMajorityOf", apart := false, narrowed := true }
def FnExactMajorityOfUptoSaid : Prop := fnExactMajorityOfUptoRow.holds Try.pinned (OpenSpec.upto fnExactMajorityOfSpec)

/-- 'laws.FnExactTapeFault', WHERE WHAT IT READS IS OF BULK AT MOST 1048576: true; the input reads as it did. -/
def fnExactTapeFaultUptoRow : OpenClaim := { program := "ytadppilldijijah", sum := "b71ecb00c6a2ad6b474e5efca532e465e4d2b10f8164a5cb0aa4a70784617b01", func := "loop.example/g00525/laws.FnExactTapeFault", spec := "fnExactTapeFault", apart := false, narrowed := true }
def FnExactTapeFaultUptoSaid : Prop := fnExactTapeFaultUptoRow.holds Try.pinned (OpenSpec.upto fnExactTapeFaultSpec)

/-- 'laws.FnExactSeedTape', WHERE WHAT IT READS IS OF BULK AT MOST 1048576: true; the input reads as it did. -/
def fnExactSeedTapeUptoRow : OpenClaim := { program := "ytadppilldijijah", sum := "b71ecb00c6a2ad6b474e5efca532e465e4d2b10f8164a5cb0aa4a70784617b01", func := "loop.example/g00525/laws.FnExactSeedTape", spec := "fnExactSeedTape", unfollowed := true, recurses := true, apart := false, narrowed := true }
def FnExactSeedTapeUptoSaid : Prop := fnExactSeedTapeUptoRow.holds Try.pinned (OpenSpec.upto fnExactSeedTapeSpec)

/-- 'laws.FnExactWordAt', WHERE WHAT IT READS IS OF BULK AT MOST 1048576: true; the input reads as it did. -/
def fnExactWordAtUptoRow : OpenClaim := { program := "ytadppilldijijah", sum := "b71ecb00c6a2ad6b474e5efca532e465e4d2b10f8164a5cb0aa4a70784617b01", func := "loop.example/g00525/laws.FnExactWordAt", spec := "fnExactWordAt", apart := false, narrowed := true }
def FnExactWordAtUptoSaid : Prop := fnExactWordAtUptoRow.holds Try.pinned (OpenSpec.upto fnExactWordAtSpec)

/-- 'laws.FnExactTapeFor', WHERE WHAT IT READS IS OF BULK AT MOST 1048576: true; the input reads as it did. -/
def fnExactTapeForUptoRow : OpenClaim := { program := "ytadppilldijijah", sum := "b71ecb00c6a2ad6b474e5efca532e465e4d2b10f8164a5cb0aa4a70784617b01", func := "loop.example/g00525/laws.FnExactTapeFor", spec := "fnExactTapeFor", apart := false, narrowed := true }
def FnExactTapeForUptoSaid : Prop := fnExactTapeForUptoRow.holds Try.pinned (OpenSpec.upto fnExactTapeForSpec)

end Rows
end Go.Proofs.Ytadppilldijijah
