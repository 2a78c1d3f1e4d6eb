/-
  A struct of letters is made, in a plain region.
-/
import Derived.Test.YtepobckhfodngaoGreatDotM0
namespace Go.Proofs.YtepobckhfodngaoGreat
open Go.ChangeShapes Go.WideShapes Go.ChangeAt Go.RowKit
set_option linter.unusedVariables false

theorem wp_build {P : Program} {op : Oper} {a : Act} {w : World} {K : Act → World → Prop} {Q : Exit → Act → World → Prop} (T : TypeId) (ps : Array (Nat × Operand)) (ho : op.op = .build T ps)
    (xs : Array (Nat × Value)) (hm : (ps.map fun (i, x) => (i, a.eval x)) = xs) (v : Value) (hr : (Instr.build T xs).run P w = .ok v w) (h : K (a.put op.dst v) w) : op.wp P a w K Q := by
  unfold Oper.wp execOp
  simp only [ho, Sem.run_bind]
  have e : (ps.map fun (x : Nat × Operand) => match x with | (i, x) => (i, a.eval x)) = xs := hm
  simp only [e, hr, Sem.run_pure, Result.andThen_ok]
  exact h
theorem wpList_build {P : Program} {ops : Array Oper} {rest : List Oper} {op : Oper} {a : Act} {w : World} {Q : Exit → Act → World → Prop} (hgd : op.guard = none) (T : TypeId) (ps : Array (Nat × Operand)) (ho : op.op = .build T ps)
    (xs : Array (Nat × Value)) (hm : (ps.map fun (i, x) => (i, a.eval x)) = xs) (v : Value) (hr : (Instr.build T xs).run P w = .ok v w)
    (k : wpList P ops Q rest (a.put op.dst v) w) : wpList P ops Q (op :: rest) a w :=
  wpList_plain hgd fun _ hK => wp_build T ps ho xs hm v hr (hK _ _ k)
/-- a share, made of its q and its views -/
theorem share_fold2 (q : Int) {bf : List Int} (h : bf.length = 16) (w : World) : (Instr.build 87 #[(0, .int .i64 q), (1, .agg (cells1 bf))]).run Tryz.prog w = .ok (.agg (cells1 (q :: bf))) w := by
  obtain ⟨a0, a1, a2, a3, b0, b1, b2, b3, c0, c1, c2, c3, d0, d1, d2, d3, rfl⟩ := lit16 h
  kernel_rfl
end Go.Proofs.YtepobckhfodngaoGreat
