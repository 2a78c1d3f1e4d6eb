/-
  A list of mirrors that was made whole, and is filled in from its head on.
-/
import Derived.Test.YtepobckhfodngaoGreatMrS
namespace Go.Proofs.YtepobckhfodngaoGreat
open Go.ChangeShapes Go.WideShapes Go.ChangeAt Go.RowKit
set_option linter.unusedVariables false

theorem nodup_app {cs bs : List Nat} (ha : cs.Nodup) (hb : bs.Nodup) (h : ∀ y ∈ cs, y ∉ bs) : (cs ++ bs).Nodup := List.nodup_append.2 ⟨ha, hb, fun x hx y hy e => h x hx (e ▸ hy)⟩
def zzC : Nat → List Value
  | 0 => []
  | n + 1 => .int .i64 0 :: .slice none 0 0 :: zzC n
theorem zzC_len : ∀ n, (zzC n).length = n * 2
  | 0 => rfl
  | n + 1 => by simp only [zzC, List.length_cons, zzC_len n]; omega
theorem msC_put {us : List Value} {xs : List MMirror} (u : Value) (x : MMirror) (m : Nat) (h : us.length = xs.length) : ((msC us xs ++ zzC (m + 1)).set (xs.length * 2) (.int .i64 x.xQ)).set (xs.length * 2 + 1) u = msC (us ++ [u]) (xs ++ [x]) ++ zzC m := by
  rw [msC_snoc u x h, ← msC_len h]
  generalize msC us xs = A
  simp [zzC]
theorem msC_zz {us : List Value} {xs : List MMirror} (m : Nat) (h : us.length = xs.length) : (msC us xs ++ zzC (m + 1))[xs.length * 2]? = some (.int .i64 0) ∧ (msC us xs ++ zzC (m + 1))[xs.length * 2 + 1]? = some (.slice none 0 0) := by
  rw [← msC_len h]
  generalize msC us xs = A
  simp [zzC]
end Go.Proofs.YtepobckhfodngaoGreat
