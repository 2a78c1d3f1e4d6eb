/-
  Contracts of chapter 3 of the program: views that are put together part by part.
-/
import Derived.Test.YtepobckhfodnganMirL
import Derived.Deep.RegionWith
namespace Go.Proofs.Ytepobckhfodngan
open Go.ChangeShapes Go.WideShapes Go.ChangeAt Go.RowKit
set_option linter.unusedVariables false

/-- each part of the one and of the other -/
def opRows (f : Int → Int → Int) (q : Int) (xss yss : List (List Int)) : List (List Int) := (List.range 4).map fun (i : Nat) => (List.range 4).map fun (k : Nat) => f (pt xss i k) (pt yss i k) % q
theorem opRows_sq (f : Int → Int → Int) (q : Int) (xss yss : List (List Int)) : Sq (opRows f q xss yss) := by
  refine ⟨by simp [opRows], fun i hi => ?_⟩
  simp [opRows, hi]
/-- the flat list, n parts of it done -/
def flatTo (f : Int → Int → Int) (q : Int) (xss yss : List (List Int)) (n : Nat) : List Int := (List.range 16).map fun (j : Nat) => if j < n then f (pt xss (j / 4) (j % 4)) (pt yss (j / 4) (j % 4)) % q else pt xss (j / 4) (j % 4)
theorem flatTo_length (f : Int → Int → Int) (q : Int) (xss yss : List (List Int)) (n : Nat) : (flatTo f q xss yss n).length = 16 := by simp [flatTo]
theorem flatTo_zero (f : Int → Int → Int) (q : Int) (xss yss : List (List Int)) (h : Sq xss) : flatTo f q xss yss 0 = xss.flatten := by
  obtain ⟨a0, a1, a2, a3, b0, b1, b2, b3, c0, c1, c2, c3, d0, d1, d2, d3, rfl⟩ := h.lit
  rfl
theorem flatTo_all (f : Int → Int → Int) (q : Int) (xss yss : List (List Int)) : flatTo f q xss yss 16 = (opRows f q xss yss).flatten := rfl
theorem flatTo_getD (f : Int → Int → Int) (q : Int) (xss yss : List (List Int)) (k m : Nat) (hk : k < 4) (hm : m < 4) : (flatTo f q xss yss (k * 4 + m)).getD (k * 4 + m) 0 = pt xss k m := by
  have h : k * 4 + m < 16 := by omega
  have e1 : (k * 4 + m) / 4 = k := by omega
  have e2 : (k * 4 + m) % 4 = m := by omega
  simp [flatTo, h, e1, e2]
theorem flatTo_set (f : Int → Int → Int) (q : Int) (xss yss : List (List Int)) (k m : Nat) (hk : k < 4) (hm : m < 4) : (flatTo f q xss yss (k * 4 + m)).set (k * 4 + m) (f (pt xss k m) (pt yss k m) % q) = flatTo f q xss yss (k * 4 + (m + 1)) := by
  have e1 : (k * 4 + m) / 4 = k := by omega
  have e2 : (k * 4 + m) % 4 = m := by omega
  refine List.ext_getElem (by simp [flatTo]) fun j h1 h2 => ?_
  have hj : j < 16 := by simpa [flatTo] using h2
  rw [List.getElem_set]
  by_cases e : k * 4 + m = j
  · subst e
    simp only [if_true, flatTo, List.getElem_map, List.getElem_range, e1, e2]
    rw [if_pos (by omega)]
  · rw [if_neg e]
    simp only [flatTo, List.getElem_map, List.getElem_range]
    by_cases e3 : j < k * 4 + m
    · rw [if_pos e3, if_pos (by omega)]
    · rw [if_neg e3, if_neg (by omega)]
theorem cells2_flat (xss : List (List Int)) : cells2 xss = cells1 xss.flatten := rfl
end Go.Proofs.Ytepobckhfodngan
