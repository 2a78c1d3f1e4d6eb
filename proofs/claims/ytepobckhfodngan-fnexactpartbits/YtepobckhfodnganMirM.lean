/-
  Contracts of chapter 3's model: sums, differences and multiples of mirrors.
-/
import Derived.Test.YtepobckhfodnganMirO
namespace Go.Proofs.Ytepobckhfodngan
open Go.ChangeShapes Go.WideShapes Go.ChangeAt Go.RowKit
set_option linter.unusedVariables false

def mixAt (q : Int) (xss yss : List (List Int)) (t : Int) (i k : Nat) : Int := (pt xss i k + t * pt yss i k) % q
def mixRow (q : Int) (xss yss : List (List Int)) (t : Int) (i : Nat) : List Int := (List.range 4).map (mixAt q xss yss t i)
def mixRows (q : Int) (xss yss : List (List Int)) (t : Int) : List (List Int) := (List.range 4).map (mixRow q xss yss t)
/-- a mirror in a box, its parts in reach: what 'l3Mix' reads -/
def Four (w : World) (b : Nat) (q : Int) (xss : List (List Int)) : Prop := ∃ v, Blk w b 30 #[.int .i64 q, v] ∧ ReadsM w v xss ∧ xss.length = 4 ∧ (∀ i, i < 4 → (xss.getD i []).length = 4) ∧ ∀ i j, 0 ≤ pt xss i j ∧ pt xss i j < 256
theorem Four.below {w w' : World} {b : Nat} {q : Int} {xss : List (List Int)} (h : Four w b q xss) (hb : Below w.heap.size w w') : Four w' b q xss := by
  obtain ⟨v, h1, h2, h3⟩ := h
  exact ⟨v, h1.keep hb, h2.below hb, h3⟩
theorem Four.cells {w : World} {b : Nat} {q : Int} {xss : List (List Int)} (h : Four w b q xss) (i k : Nat) (hi : i < 4) (hk : k < 4) :
    ∃ gb off c g2 o2 d, (∀ o, w.cell? ⟨b, o, none⟩ = (#[.int .i64 q, .slice (some ⟨gb, off, none⟩) 4 c] : Array Value)[o]?) ∧ w.cell? ⟨gb, off + i, none⟩ = some (.slice (some ⟨g2, o2, none⟩) 4 d) ∧ w.cell? ⟨g2, o2 + k, none⟩ = some (.int .i64 (pt xss i k)) := by
  obtain ⟨v, h1, h2, h4, hr, _⟩ := h
  obtain ⟨p, c, rfl⟩ := h2.shp
  obtain ⟨gb, off, g2, o2, d, rfl, c1, c2⟩ := h2.part h4 hr i k hi hk
  have := h1.at.1
  rw [h4] at this
  exact ⟨gb, off, c, g2, o2, d, this, c1, c2⟩
theorem Four.cellsAll {w : World} {b : Nat} {q : Int} {xss : List (List Int)} (h : Four w b q xss) (i k : Nat) (hi : i < 4) (hk : k < 4) :
    ∃ gb off c g2 o2 d, ∀ W, Below w.heap.size w W → (∀ o, W.cell? ⟨b, o, none⟩ = (#[.int .i64 q, .slice (some ⟨gb, off, none⟩) 4 c] : Array Value)[o]?) ∧ W.cell? ⟨gb, off + i, none⟩ = some (.slice (some ⟨g2, o2, none⟩) 4 d) ∧ W.cell? ⟨g2, o2 + k, none⟩ = some (.int .i64 (pt xss i k)) := by
  obtain ⟨v, h1, h2, h4, hr, _⟩ := h
  obtain ⟨p, c, rfl⟩ := h2.shp
  obtain ⟨gb, off, g2, o2, d, rfl, c1, c2⟩ := h2.part h4 hr i k hi hk
  refine ⟨gb, off, c, g2, o2, d, fun W B => ?_⟩
  have := (h1.keep B).at.1
  rw [h4] at this
  exact ⟨this, kcell c1 B, kcell c2 B⟩
theorem Four.q {w : World} {b : Nat} {q : Int} {xss : List (List Int)} (h : Four w b q xss) : w.cell? ⟨b, 0, none⟩ = some (.int .i64 q) := by
  obtain ⟨v, h1, _⟩ := h
  rw [h1.at.1]; rfl
end Go.Proofs.Ytepobckhfodngan
