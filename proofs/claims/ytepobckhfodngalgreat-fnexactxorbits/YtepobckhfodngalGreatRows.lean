/-
  No cell of these rows narrows 'for every input' (looked for: loops, veiled, ifaces, maps, wideKeys, modest, calm, conditions, laid).
  DERIVED. THE GIVEN ROWS OF THIS SEAT. 3 by the template 'for every input the law returns true; each argument reads behind the call as it read before'; 0 by the template 'total and deterministic' (their statements: YtepobckhfodngalGreatTotals.lean).
  GIVEN WITH THE SEED: the statements are not yours to turn. If you find one false, say at which input.
  Laid BY PROGRAM, IN A SANDBOX (cutbox-rows.mjs): the forced cells as the released guide's own fill.sh prints them over the translation 8cd2e97820dc7ac1… (all of the seat's roots in one cut). By AI agents, Wed Nov 11 2026. No macro, syntax, notation, axiom, sorry.
-/
import Derived.Test.YtepobckhfodngalGreatChecked
import GoSem.Claim
import GoSem.ClaimJoined
import GoSem.ClaimMapViews
import Derived.JoinedTies
import Derived.KernelRfl
namespace Go.Proofs.YtepobckhfodngalGreat
/- THE CELL 'sum', in the pinned program and in every row, IS THE sha256 OF THE DUMP (.gsa) THAT YtepobckhfodngalGreatProg.lean LOADS. Nothing in Lean hashes anything: it is a label: what it is worth is what the hold of that sum in a sandbox is worth. -/
noncomputable def Tryz.pinned : Pinned := { name := "ytepobckhfodngalgreat", sum := "8cd2e97820dc7ac150b9a7d16c0f1d03b0f0706a4098eef97ee186f17f03f072", checked := Tryz.checked }
namespace Rows
def none {H : Type} : Left H := { results := [], args := [] }

/-- 'laws.FnExactMultMirrors': WHATEVER THE INPUT: true; the input reads as it did. -/
def fnExactMultMirrorsSpec : ChangeSpec := { name := "fnExactMultMirrors", fn := fun _ => fun
  | [d1, d2, d3] => { results := [.lit (.bool true)], args := [d1, d2, d3] }
  | _ => none }
def fnExactMultMirrorsRow : OpenClaim := { program := "ytepobckhfodngalgreat", sum := "8cd2e97820dc7ac150b9a7d16c0f1d03b0f0706a4098eef97ee186f17f03f072", func := "loop.example/g00525/laws.FnExactMultMirrors", spec := "fnExactMultMirrors", unfollowed := true, recurses := true, apart := false }
def FnExactMultMirrorsSaid : Prop := fnExactMultMirrorsRow.holds Tryz.pinned (OpenSpec.ofChange fnExactMultMirrorsSpec)

/-- ITS FALSE NEIGHBOUR: 'it returns false'. Refute it at one input. -/
def fnExactMultMirrorsWrong : ChangeSpec := { name := "fnExactMultMirrors", fn := fun _ => fun
  | [d1, d2, d3] => { results := [.lit (.bool false)], args := [d1, d2, d3] }
  | _ => none }
def FnExactMultMirrorsWrongFalsely : Prop := fnExactMultMirrorsRow.holds Tryz.pinned (OpenSpec.ofChange fnExactMultMirrorsWrong)

/-- 'laws.FnExactXorBits': WHATEVER THE INPUT: true; the input reads as it did. -/
def fnExactXorBitsSpec : ChangeSpec := { name := "fnExactXorBits", fn := fun _ => fun
  | [d1, d2, d3] => { results := [.lit (.bool true)], args := [d1, d2, d3] }
  | _ => none }
def fnExactXorBitsRow : OpenClaim := { program := "ytepobckhfodngalgreat", sum := "8cd2e97820dc7ac150b9a7d16c0f1d03b0f0706a4098eef97ee186f17f03f072", func := "loop.example/g00525/laws.FnExactXorBits", spec := "fnExactXorBits", unfollowed := true, recurses := true, apart := false }
def FnExactXorBitsSaid : Prop := fnExactXorBitsRow.holds Tryz.pinned (OpenSpec.ofChange fnExactXorBitsSpec)

/-- ITS FALSE NEIGHBOUR: 'it returns false'. Refute it at one input. -/
def fnExactXorBitsWrong : ChangeSpec := { name := "fnExactXorBits", fn := fun _ => fun
  | [d1, d2, d3] => { results := [.lit (.bool false)], args := [d1, d2, d3] }
  | _ => none }
def FnExactXorBitsWrongFalsely : Prop := fnExactXorBitsRow.holds Tryz.pinned (OpenSpec.ofChange fnExactXorBitsWrong)

/-- 'laws.FnExactInputMany': WHATEVER THE INPUT: true; the input reads as it did. -/
def fnExactInputManySpec : ChangeSpec := { name := "fnExactInputMany", fn := fun _ => fun
  | [d1, d2, d3] => { results := [.lit (.bool true)], args := [d1, d2, d3] }
  | _ => none }
def fnExactInputManyRow : OpenClaim := { program := "ytepobckhfodngalgreat", sum := "8cd2e97820dc7ac150b9a7d16c0f1d03b0f0706a4098eef97ee186f17f03f072", func := "loop.example/g00525/laws.FnExactInputMany", spec := "fnExactInputMany", unfollowed := true, recurses := true, apart := false }
def FnExactInputManySaid : Prop := fnExactInputManyRow.holds Tryz.pinned (OpenSpec.ofChange fnExactInputManySpec)

/-- ITS FALSE NEIGHBOUR: 'it returns false'. Refute it at one input. -/
def fnExactInputManyWrong : ChangeSpec := { name := "fnExactInputMany", fn := fun _ => fun
  | [d1, d2, d3] => { results := [.lit (.bool false)], args := [d1, d2, d3] }
  | _ => none }
def FnExactInputManyWrongFalsely : Prop := fnExactInputManyRow.holds Tryz.pinned (OpenSpec.ofChange fnExactInputManyWrong)

/- THE SECOND FORM. 'bulk': how many values and letters a reading holds, each counted each time it is reached (what is shared counts as often as it is met; a slice's spare places count too). A statement '..UptoSaid' is the law's where the arguments, and the package variables that the reading takes, are together of bulk at most 1048576: NARROWER than '..Said'. Prove '..Said' where nothing that the law and all that it calls make is longer than what came in: it says more and counts as full. Else prove '..UptoSaid'. A law counts once. -/
mutual
def uptoBulk {H : Type} : DataW H → Nat
  | .lit (.string bytes) => bytes.length + 1
  | .lit _ => 1
  | .nil => 1
  | .ptr d => uptoBulk d + 1
  | .slice elems spare => uptoBulkAll elems + uptoBulkAll spare + 1
  | .agg parts => uptoBulkAll parts + 1
  | .iface _ d => uptoBulk d + 1
  | .map entries => uptoBulkEntries entries + 1
  | .held _ => 1
def uptoBulkAll {H : Type} : List (DataW H) → Nat
  | [] => 0
  | d :: r => uptoBulk d + uptoBulkAll r
def uptoBulkEntries {H : Type} : List (Lit × DataW H) → Nat
  | [] => 0
  | x :: r => uptoBulkEntry x + uptoBulkEntries r
def uptoBulkEntry {H : Type} : Lit × DataW H → Nat
  | (.string bytes, d) => bytes.length + uptoBulk d + 1
  | (_, d) => uptoBulk d + 1
 end
def uptoSmall : (H : Type) → List (DataW H) → Bool := fun _ ds => decide (uptoBulkAll ds ≤ 1048576)
def OpenSpec.upto (s : _root_.Go.ChangeSpec) : _root_.Go.OpenSpec := { _root_.Go.OpenSpec.ofChange s with cond := some uptoSmall }

/-- 'laws.FnExactMultMirrors', WHERE WHAT IT READS IS OF BULK AT MOST 1048576: true; the input reads as it did. -/
def fnExactMultMirrorsUptoRow : OpenClaim := { program := "ytepobckhfodngalgreat", sum := "8cd2e97820dc7ac150b9a7d16c0f1d03b0f0706a4098eef97ee186f17f03f072", func := "loop.example/g00525/laws.FnExactMultMirrors", spec := "fnExactMultMirrors", unfollowed := true, recurses := true, apart := false, narrowed := true }
def FnExactMultMirrorsUptoSaid : Prop := fnExactMultMirrorsUptoRow.holds Tryz.pinned (OpenSpec.upto fnExactMultMirrorsSpec)

/-- 'laws.FnExactXorBits', WHERE WHAT IT READS IS OF BULK AT MOST 1048576: true; the input reads as it did. -/
def fnExactXorBitsUptoRow : OpenClaim := { program := "ytepobckhfodngalgreat", sum := "8cd2e97820dc7ac150b9a7d16c0f1d03b0f0706a4098eef97ee186f17f03f072", func := "loop.example/g00525/laws.FnExactXorBits", spec := "fnExactXorBits", unfollowed := true, recurses := true, apart := false, narrowed := true }
def FnExactXorBitsUptoSaid : Prop := fnExactXorBitsUptoRow.holds Tryz.pinned (OpenSpec.upto fnExactXorBitsSpec)

/-- 'laws.FnExactInputMany', WHERE WHAT IT READS IS OF BULK AT MOST 1048576: true; the input reads as it did. -/
def fnExactInputManyUptoRow : OpenClaim := { program := "ytepobckhfodngalgreat", sum := "8cd2e97820dc7ac150b9a7d16c0f1d03b0f0706a4098eef97ee186f17f03f072", func := "loop.example/g00525/laws.FnExactInputMany", spec := "fnExactInputMany", unfollowed := true, recurses := true, apart := false, narrowed := true }
def FnExactInputManyUptoSaid : Prop := fnExactInputManyUptoRow.holds Tryz.pinned (OpenSpec.upto fnExactInputManySpec)

end Rows
end Go.Proofs.YtepobckhfodngalGreat
