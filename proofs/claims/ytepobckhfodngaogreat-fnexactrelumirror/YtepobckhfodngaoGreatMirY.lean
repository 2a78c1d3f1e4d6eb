/-
  Contracts of chapter 3's model: sums and differences of mirrors.
-/
import Derived.Test.YtepobckhfodngaoGreatMirM
import Derived.Test.YtepobckhfodngaoGreatMirW
namespace Go.Proofs.YtepobckhfodngaoGreat
open Go.ChangeShapes Go.WideShapes Go.ChangeAt Go.RowKit
set_option linter.unusedVariables false

/-- the code of two mirrors -/
def bothC (q : Int) (xss : List (List Int)) (q' : Int) (yss : List (List Int)) : Int := if mirC q xss = 0 then (if mirC q' yss = 0 then (if q = q' then 0 else 1) else mirC q' yss) else mirC q xss
theorem bothC_a {q : Int} {xss : List (List Int)} {q' : Int} {yss : List (List Int)} (h : mirC q xss ≠ 0) : bothC q xss q' yss = mirC q xss := if_neg h
theorem bothC_b {q : Int} {xss : List (List Int)} {q' : Int} {yss : List (List Int)} (h : mirC q xss = 0) (k : mirC q' yss ≠ 0) : bothC q xss q' yss = mirC q' yss := by unfold bothC; rw [if_pos h, if_neg k]
theorem bothC_q {q : Int} {xss : List (List Int)} {q' : Int} {yss : List (List Int)} (h : mirC q xss = 0) (k : mirC q' yss = 0) (e : ¬ q = q') : bothC q xss q' yss = 1 := by unfold bothC; rw [if_pos h, if_pos k, if_neg e]
theorem bothC_ok {q : Int} {xss : List (List Int)} {q' : Int} {yss : List (List Int)} (h : mirC q xss = 0) (k : mirC q' yss = 0) (e : q = q') : bothC q xss q' yss = 0 := by unfold bothC; rw [if_pos h, if_pos k, if_pos e]
theorem bothC_zero {q : Int} {xss : List (List Int)} {q' : Int} {yss : List (List Int)} (h : bothC q xss q' yss = 0) : mirC q xss = 0 ∧ mirC q' yss = 0 ∧ q = q' := by
  unfold bothC at h
  split at h
  · split at h
    · split at h
      · exact ⟨‹_›, ‹_›, ‹_›⟩
      · cases h
    · contradiction
  · contradiction
/-- what comes of two mirrors, part by part -/
def joinR (f : Int → Int → Int) (x y : MMirror) : MMirrorResult := if bothC x.xQ x.xViews y.xQ y.xViews = 0 then ⟨0, ⟨x.xQ, opRows f x.xQ x.xViews y.xViews⟩⟩ else badR (bothC x.xQ x.xViews y.xQ y.xViews)
theorem sl_opRows (f : Int → Int → Int) (q : Int) (xss yss : List (List Int)) : sl (opRows f q xss yss) = 16 := by simp [opRows, List.range_succ, sl]
theorem joinR_cnt (f : Int → Int → Int) (x y : MMirror) : cntMirrorResult (joinR f x y) ≤ 268435456 := by
  unfold joinR
  split
  · show sl (opRows ..) ≤ _
    rw [sl_opRows]; omega
  · show sl [] ≤ _; simp [sl]
theorem mixRows_op (q : Int) (xss yss : List (List Int)) (t : Int) : mixRows q xss yss t = opRows (fun x y => x + t * y) q xss yss := rfl
theorem mixRows_add (q : Int) (xss yss : List (List Int)) : mixRows q xss yss 1 = opRows (fun x y => x + y) q xss yss := by
  rw [mixRows_op]; congr 1; funext x y; omega
theorem mixRows_sub (q : Int) (xss yss : List (List Int)) : mixRows q xss yss (-1) = opRows (fun x y => x - y) q xss yss := by
  rw [mixRows_op]; congr 1; funext x y; omega
theorem pt_bd {q : Int} {xss : List (List Int)} (h : mirC q xss = 0) : ∀ i j, 0 ≤ pt xss i j ∧ pt xss i j < q := (mirC_zero h).2.2.2.1
theorem Four.of {w : World} {b : Nat} {q : Int} {v : Value} {xss : List (List Int)} (hb : Blk w b 36 #[.int .i64 q, v]) (hv : ReadsM w v xss) (hc : mirC q xss = 0) : Four w b q xss := by
  obtain ⟨hq, h4, hr, hx, _⟩ := mirC_zero hc
  exact ⟨v, hb, hv, h4, hr, fun i j => ⟨(hx i j).1, by have := (hx i j).2; show pt xss i j < _; unfold pt; rcases hq with h | h <;> omega⟩⟩
end Go.Proofs.YtepobckhfodngaoGreat
