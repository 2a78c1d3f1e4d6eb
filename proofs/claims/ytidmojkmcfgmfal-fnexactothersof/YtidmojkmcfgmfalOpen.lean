/-
  What the row hands over, read as the plain shapes. Made by types_.py.
-/
import Derived.Test.YtidmojkmcfgmfalTy
import Derived.Deep.Matrix
import Derived.ChangeArms
namespace Go.Proofs.Ytidmojkmcfgmfal
open Go.ChangeShapes Go.WideShapes Go.ChangeAt Go.RowKit
set_option linter.unusedVariables false
section
variable {H : Type} {enc : TypeId × Value → H} {W : World} {held : Bool} {fuel : Nat} {cs : List Value} {x : DataW H × List MemPlace}
theorem addr_add (b off i : Nat) : (⟨b, off, none⟩ : Addr).add i = ⟨b, off + i, none⟩ := by
  unfold Addr.add
  split
  · subst_vars; rfl
  · rfl
theorem open_int64 (h : DataW.trod enc Try.prog W 0 (fun _ => true) held fuel 2 cs = some x) : ∃ n, cs = [.int .i64 n] ∧ (Lit.int .i64 n).wf = true := by
  obtain ⟨n, e, _, k⟩ := DataW.trod_int Try.underlying2 h
  exact ⟨n, e, k⟩
theorem open_boolean (h : DataW.trod enc Try.prog W 0 (fun _ => true) held fuel 4 cs = some x) : ∃ b, cs = [.bool b] := by
  obtain ⟨b, e, _⟩ := DataW.trod_bool Try.underlying4 h
  exact ⟨b, e⟩
theorem open_Int64S (h : DataW.trod enc Try.prog W 0 (fun _ => true) held fuel 30 cs = some x) : ∃ v xs, cs = [v] ∧ Reads W .i64 v xs ∧ ∀ n ∈ xs, (Lit.int .i64 n).wf = true := by
  rcases open_ints Try.underlying30 Try.underlying2 (by kernel_rfl) h with ⟨rfl, _⟩ | ⟨a, l, c, zs, rfl, _, hl, hm, hz, _, hcell, hwz⟩
  · exact ⟨_, [], rfl, Reads.empty _ _ _ _, fun n hn => by cases hn⟩
  · obtain ⟨xs, e, hr, hw⟩ := IsRow.reads (k := .i64) (w := W) (a := some a) (len := l) (cap := c) (zs := zs) (.inr ⟨_, rfl, hl, hm, by simpa using hz, hcell, hwz⟩)
    exact ⟨_, xs, rfl, hr, hw⟩
end
end Go.Proofs.Ytidmojkmcfgmfal

