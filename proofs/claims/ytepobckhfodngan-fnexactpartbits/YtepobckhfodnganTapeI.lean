/-
  Contracts of chapter 2's program: faults of tapes, and single words.
-/
import Derived.Test.YtepobckhfodnganTapeS
import Derived.Test.YtepobckhfodnganEl
namespace Go.Proofs.Ytepobckhfodngan
open Go.ChangeShapes Go.WideShapes Go.ChangeAt Go.RowKit
set_option linter.unusedVariables false

theorem rowC_el {xs : List Int} (h : ¬ 900 < xs.length) : rowC xs = elC 256 xs := by
  by_cases k : okE 256 xs = true
  · rw [show elC 256 xs = 0 from if_pos k]
    exact rowC_ok h ((okB_iff xs).2 fun j hj => by have := (okE_iff 256 xs).1 k j hj; omega)
  · rw [show elC 256 xs = 3 from if_neg k]
    exact rowC_bad h (fun h' => k ((okE_iff 256 xs).2 fun j hj => by have := (okB_iff xs).1 h' j hj; omega))
end Go.Proofs.Ytepobckhfodngan
