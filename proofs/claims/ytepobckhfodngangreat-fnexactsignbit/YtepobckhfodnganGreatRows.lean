/-
  No cell of these rows narrows 'for every input' (looked for: loops, veiled, ifaces, maps, wideKeys, modest, calm, conditions, laid).
  DERIVED. THE GIVEN ROWS OF THIS SEAT. 3 by the template 'for every input the law returns true; each argument reads behind the call as it read before'; 0 by the template 'total and deterministic' (their statements: YtepobckhfodnganGreatTotals.lean).
  GIVEN WITH THE SEED: the statements are not yours to turn. If you find one false, say at which input.
  Laid BY PROGRAM, IN A SANDBOX (cutbox-rows.mjs): the forced cells as the released guide's own fill.sh prints them over the translation 7386267de91393a8… (all of the seat's roots in one cut). By AI agents, Wed Nov 11 2026. No macro, syntax, notation, axiom, sorry.
-/
import Derived.Test.YtepobckhfodnganGreatChecked
import GoSem.Claim
import GoSem.ClaimJoined
import GoSem.ClaimMapViews
import Derived.JoinedTies
import Derived.KernelRfl
namespace Go.Proofs.YtepobckhfodnganGreat
/- THE CELL 'sum', in the pinned program and in every row, IS THE sha256 OF THE DUMP (.gsa) THAT YtepobckhfodnganGreatProg.lean LOADS. Nothing in Lean hashes anything: it is a label: what it is worth is what the hold of that sum in a sandbox is worth. -/
noncomputable def Tryz.pinned : Pinned := { name := "ytepobckhfodngangreat", sum := "7386267de91393a8da55d9af7084d5467776287bc5bbbb8ec11f9325305611b3", checked := Tryz.checked }
namespace Rows
def none {H : Type} : Left H := { results := [], args := [] }

/-- 'laws.FnExactAddBits': WHATEVER THE INPUT: true; the input reads as it did. -/
def fnExactAddBitsSpec : ChangeSpec := { name := "fnExactAddBits", fn := fun _ => fun
  | [d1, d2, d3] => { results := [.lit (.bool true)], args := [d1, d2, d3] }
  | _ => none }
def fnExactAddBitsRow : OpenClaim := { program := "ytepobckhfodngangreat", sum := "7386267de91393a8da55d9af7084d5467776287bc5bbbb8ec11f9325305611b3", func := "loop.example/g00525/laws.FnExactAddBits", spec := "fnExactAddBits", unfollowed := true, recurses := true, apart := false }
def FnExactAddBitsSaid : Prop := fnExactAddBitsRow.holds Tryz.pinned (OpenSpec.ofChange fnExactAddBitsSpec)

/-- ITS FALSE NEIGHBOUR: 'it returns false'. Refute it at one input. -/
def fnExactAddBitsWrong : ChangeSpec := { name := "fnExactAddBits", fn := fun _ => fun
  | [d1, d2, d3] => { results := [.lit (.bool false)], args := [d1, d2, d3] }
  | _ => none }
def FnExactAddBitsWrongFalsely : Prop := fnExactAddBitsRow.holds Tryz.pinned (OpenSpec.ofChange fnExactAddBitsWrong)

/-- 'laws.FnExactSignBit': WHATEVER THE INPUT: true; the input reads as it did. -/
def fnExactSignBitSpec : ChangeSpec := { name := "fnExactSignBit", fn := fun _ => fun
  | [d1, d2] => { results := [.lit (.bool true)], args := [d1, d2] }
  | _ => none }
def fnExactSignBitRow : OpenClaim := { program := "ytepobckhfodngangreat", sum := "7386267de91393a8da55d9af7084d5467776287bc5bbbb8ec11f9325305611b3", func := "loop.example/g00525/laws.FnExactSignBit", spec := "fnExactSignBit", unfollowed := true, recurses := true, apart := false }
def FnExactSignBitSaid : Prop := fnExactSignBitRow.holds Tryz.pinned (OpenSpec.ofChange fnExactSignBitSpec)

/-- ITS FALSE NEIGHBOUR: 'it returns false'. Refute it at one input. -/
def fnExactSignBitWrong : ChangeSpec := { name := "fnExactSignBit", fn := fun _ => fun
  | [d1, d2] => { results := [.lit (.bool false)], args := [d1, d2] }
  | _ => none }
def FnExactSignBitWrongFalsely : Prop := fnExactSignBitRow.holds Tryz.pinned (OpenSpec.ofChange fnExactSignBitWrong)

/-- 'laws.FnExactInjectBit': WHATEVER THE INPUT: true; the input reads as it did. -/
def fnExactInjectBitSpec : ChangeSpec := { name := "fnExactInjectBit", fn := fun _ => fun
  | [d1, d2] => { results := [.lit (.bool true)], args := [d1, d2] }
  | _ => none }
def fnExactInjectBitRow : OpenClaim := { program := "ytepobckhfodngangreat", sum := "7386267de91393a8da55d9af7084d5467776287bc5bbbb8ec11f9325305611b3", func := "loop.example/g00525/laws.FnExactInjectBit", spec := "fnExactInjectBit", unfollowed := true, recurses := true, apart := false }
def FnExactInjectBitSaid : Prop := fnExactInjectBitRow.holds Tryz.pinned (OpenSpec.ofChange fnExactInjectBitSpec)

/-- ITS FALSE NEIGHBOUR: 'it returns false'. Refute it at one input. -/
def fnExactInjectBitWrong : ChangeSpec := { name := "fnExactInjectBit", fn := fun _ => fun
  | [d1, d2] => { results := [.lit (.bool false)], args := [d1, d2] }
  | _ => none }
def FnExactInjectBitWrongFalsely : Prop := fnExactInjectBitRow.holds Tryz.pinned (OpenSpec.ofChange fnExactInjectBitWrong)

/- THE SECOND FORM. 'bulk': how many values and letters a reading holds, each counted each time it is reached (what is shared counts as often as it is met; a slice's spare places count too). A statement '..UptoSaid' is the law's where the arguments, and the package variables that the reading takes, are together of bulk at most 1048576: NARROWER than '..Said'. Prove '..Said' where nothing that the law and all that it calls make is longer than what came in: it says more and counts as full. Else prove '..UptoSaid'. A law counts once. -/
mutual
def uptoBulk {H : Type} : DataW H → Nat
  | .lit (.string bytes) => bytes.length + 1
  | .lit _ => 1
  | .nil => 1
  | .ptr d => uptoBulk d + 1
  | .slice elems spare => uptoBulkAll elems + uptoBulkAll spare + 1
  | .agg parts => uptoBulkAll parts + 1
  | .iface _ d => uptoBulk d + 1
  | .map entries => uptoBulkEntries entries + 1
  | .held _ => 1
def uptoBulkAll {H : Type} : List (DataW H) → Nat
  | [] => 0
  | d :: r => uptoBulk d + uptoBulkAll r
def uptoBulkEntries {H : Type} : List (Lit × DataW H) → Nat
  | [] => 0
  | x :: r => uptoBulkEntry x + uptoBulkEntries r
def uptoBulkEntry {H : Type} : Lit × DataW H → Nat
  | (.string bytes, d) => bytes.length + uptoBulk d + 1
  | (_, d) => uptoBulk d + 1
 end
def uptoSmall : (H : Type) → List (DataW H) → Bool := fun _ ds => decide (uptoBulkAll ds ≤ 1048576)
def OpenSpec.upto (s : _root_.Go.ChangeSpec) : _root_.Go.OpenSpec := { _root_.Go.OpenSpec.ofChange s with cond := some uptoSmall }

/-- 'laws.FnExactAddBits', WHERE WHAT IT READS IS OF BULK AT MOST 1048576: true; the input reads as it did. -/
def fnExactAddBitsUptoRow : OpenClaim := { program := "ytepobckhfodngangreat", sum := "7386267de91393a8da55d9af7084d5467776287bc5bbbb8ec11f9325305611b3", func := "loop.example/g00525/laws.FnExactAddBits", spec := "fnExactAddBits", unfollowed := true, recurses := true, apart := false, narrowed := true }
def FnExactAddBitsUptoSaid : Prop := fnExactAddBitsUptoRow.holds Tryz.pinned (OpenSpec.upto fnExactAddBitsSpec)

/-- 'laws.FnExactSignBit', WHERE WHAT IT READS IS OF BULK AT MOST 1048576: true; the input reads as it did. -/
def fnExactSignBitUptoRow : OpenClaim := { program := "ytepobckhfodngangreat", sum := "7386267de91393a8da55d9af7084d5467776287bc5bbbb8ec11f9325305611b3", func := "loop.example/g00525/laws.FnExactSignBit", spec := "fnExactSignBit", unfollowed := true, recurses := true, apart := false, narrowed := true }
def FnExactSignBitUptoSaid : Prop := fnExactSignBitUptoRow.holds Tryz.pinned (OpenSpec.upto fnExactSignBitSpec)

/-- 'laws.FnExactInjectBit', WHERE WHAT IT READS IS OF BULK AT MOST 1048576: true; the input reads as it did. -/
def fnExactInjectBitUptoRow : OpenClaim := { program := "ytepobckhfodngangreat", sum := "7386267de91393a8da55d9af7084d5467776287bc5bbbb8ec11f9325305611b3", func := "loop.example/g00525/laws.FnExactInjectBit", spec := "fnExactInjectBit", unfollowed := true, recurses := true, apart := false, narrowed := true }
def FnExactInjectBitUptoSaid : Prop := fnExactInjectBitUptoRow.holds Tryz.pinned (OpenSpec.upto fnExactInjectBitSpec)

end Rows
end Go.Proofs.YtepobckhfodnganGreat
