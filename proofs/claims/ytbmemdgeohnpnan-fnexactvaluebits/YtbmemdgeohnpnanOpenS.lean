/-
  What the row hands over, read as lists of mirrors.
-/
import Derived.Test.YtbmemdgeohnpnanMrS
import Derived.Test.YtbmemdgeohnpnanOpen
import Derived.Deep.Slices
namespace Go.Proofs.Ytbmemdgeohnpnan
open Go.ChangeShapes Go.WideShapes Go.ChangeAt Go.RowKit
set_option linter.unusedVariables false
section
variable {H : Type} {enc : TypeId × Value → H} {W : World} {held : Bool} {fuel : Nat} {cs : List Value} {x : DataW H × List MemPlace}
instance : Inhabited MMirror := ⟨zM⟩
theorem open_MirrorS (h : DataW.trod enc Try.prog W 0 (fun _ => true) held fuel 37 cs = some x) : ∃ v xs, cs = [v] ∧ RdMirrorS W v xs := by
  rcases Go.Deep.open_slice Try.underlying37 h with ⟨rfl, _⟩ | ⟨a, len, cap, m, n, D, Pl, rfl, _, hl, hm, hmm, _, hx⟩
  · exact ⟨_, [], rfl, ⟨_, _, rfl, Nat.zero_le _, fun h => absurd rfl h⟩⟩
  · simp only [if_true] at hmm
    subst hmm
    rw [show Try.prog.cellsOf 24 = 2 from by kernel_rfl] at hx
    have each : ∀ i, i < len → ∃ y : MMirror, ∃ p c, W.cell? (a.add (i * 2)) = some (.int .i64 y.xQ) ∧ W.cell? ((a.add (i * 2)).add 1) = some (.slice p y.xViews.length c) ∧ ReadsM W (.slice p y.xViews.length c) y.xViews := by
      intro i hi
      obtain ⟨cs', h1, h2⟩ := hx i (by omega)
      obtain ⟨y, p, c, e, hr⟩ := open_Mirror h2
      have e' : cs' = [.int .i64 y.xQ, .slice p y.xViews.length c] := by simpa using congrArg (fun v => match v with | Value.agg a => a.toList | _ => []) e
      subst e'
      obtain ⟨_, _, hc⟩ := World.cells?_some h1
      refine ⟨y, p, c, ?_, ?_, hr⟩
      · have := hc 0 (by omega)
        simpa [Addr.add] using this
      · have := hc 1 (by omega)
        simpa using this
    obtain ⟨f, hf⟩ := Go.Deep.choose_lt each
    refine ⟨_, (List.range len).map f, rfl, some a, m, by simp, by simp; omega, fun hx => ?_⟩
    have h0 : 0 < len := by
      rcases Nat.eq_zero_or_pos len with h | h
      · subst h; simp at hx
      · exact h
    obtain ⟨_, _, c0, _⟩ := hf 0 h0
    obtain ⟨b, off, spot⟩ := a
    have hspot : spot = none := by simpa [Addr.add] using World.cell?_spot c0
    subst hspot
    refine ⟨b, off, rfl, by simpa [Addr.add] using cell_lt c0, fun i hi => ?_⟩
    simp only [List.length_map, List.length_range] at hi
    obtain ⟨p, c, e1, e2, e3⟩ := hf i hi
    have hg : ((List.range len).map f).getD i zM = f i := by simp [hi]
    rw [hg]
    rw [addr_add] at e1
    rw [addr_add, addr_add] at e2
    exact ⟨p, c, e1, e2, e3⟩
end
end Go.Proofs.Ytbmemdgeohnpnan
