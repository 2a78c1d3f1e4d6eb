/-
  Lists of mirrors in memory: the laws' helpers that compare, mark and hold them.
-/
import Derived.Test.YtbmemdgeohnpnacMrS
import Derived.Deep.RegionHeld3
namespace Go.Proofs.Ytbmemdgeohnpnac
open Go.ChangeShapes Go.WideShapes Go.ChangeAt Go.RowKit
set_option linter.unusedVariables false

theorem four_keep {w w' : World} {a b c d : Addr} {s t u v : Value} (h : (w.cell? a = some s ∧ w.cell? b = some t) ∧ (w.cell? c = some u ∧ w.cell? d = some v)) (hb : Below w.heap.size w w') : (w'.cell? a = some s ∧ w'.cell? b = some t) ∧ (w'.cell? c = some u ∧ w'.cell? d = some v) :=
  ⟨two_keep h.1 hb, two_keep h.2 hb⟩
/-- marks mirror by mirror -/
def mkMirrorS (k : Int) : List MMirror → List MMirror
  | [] => []
  | x :: r => ⟨k, marksM (k + 1) x.xViews⟩ :: mkMirrorS (k + 1 + (sl x.xViews : Nat)) r
theorem mkMirrorS_length : ∀ (k : Int) (xs : List MMirror), (mkMirrorS k xs).length = xs.length
  | _, [] => rfl
  | k, x :: r => by simp [mkMirrorS, mkMirrorS_length]
theorem mkMirrorS_getD : ∀ (k : Int) (xs : List MMirror) (i : Nat), i < xs.length → (mkMirrorS k xs).getD i zM = ⟨k + (smC (xs.take i) : Nat), marksM (k + (smC (xs.take i) : Nat) + 1) (xs.getD i zM).xViews⟩
  | k, [], i, h => by simp at h
  | k, x :: r, 0, _ => by simp [mkMirrorS, smC]
  | k, x :: r, i + 1, h => by
    have := mkMirrorS_getD (k + 1 + (sl x.xViews : Nat)) r i (by simpa using h)
    simp only [mkMirrorS, List.getD_cons_succ, List.take_succ_cons, smC]
    rw [this]
    have e : k + 1 + (sl x.xViews : Nat) + (smC (r.take i) : Nat) = k + ((1 + sl x.xViews + smC (r.take i) : Nat) : Int) := by omega
    rw [e]
def mixMS (k : Int) (xs : List MMirror) (j : Nat) : List MMirror := (mkMirrorS k xs).take j ++ xs.drop j
theorem mixMS_length (k : Int) (xs : List MMirror) (j : Nat) (h : j ≤ xs.length) : (mixMS k xs j).length = xs.length := by
  simp [mixMS, mkMirrorS_length]; omega
theorem mixMS_set (k : Int) (xs : List MMirror) (j : Nat) (h : j < xs.length) : (mixMS k xs j).set j ((mkMirrorS k xs).getD j zM) = mixMS k xs (j + 1) := by
  have hl : j < (mkMirrorS k xs).length := by rw [mkMirrorS_length]; exact h
  unfold mixMS
  have e : ((mkMirrorS k xs).take j).length = j := by simp [mkMirrorS_length]; omega
  have hg : (mkMirrorS k xs).getD j zM = (mkMirrorS k xs)[j] := by simp [hl]
  rw [List.set_append_right _ _ (by omega), e, Nat.sub_self, List.drop_eq_getElem_cons h, List.set_cons_zero, List.take_succ_eq_append_getElem hl, hg]
  simp only [List.append_assoc, List.singleton_append]
theorem mixMS_getD (k : Int) (xs : List MMirror) (j : Nat) (h : j < xs.length) : (mixMS k xs j).getD j zM = xs.getD j zM := by
  have hl : ((mkMirrorS k xs).take j).length = j := by simp [mkMirrorS_length]; omega
  unfold mixMS
  rw [List.getD_eq_getElem?_getD, List.getElem?_append_right (by omega), hl, Nat.sub_self]
  simp
/-- one mirror's views are written anew, its Q told otherwise; the others stay -/
theorem MsR.upd {w w' : World} : ∀ {us : List Value} {xs : List MMirror} {bi : List (List Nat)} {i : Nat} {u : Value} {b : List Nat} {y : MMirror}, MsR w us xs bi → i < xs.length → us[i]? = some u → bi[i]? = some b → Off b w w' → Mat w' u y.xViews b → bi.flatten.Nodup → MsR w' us (xs.set i y) bi
  | [], [], [], i, _, _, _, _, hi, _, _, _, _, _ => by simp at hi
  | v :: us, x :: xs, b :: bi, 0, _, _, y, h, _, hv, hb, ho, hn, hd => by
    simp at hv hb
    subst hv hb
    rw [List.flatten_cons, List.nodup_append] at hd
    exact ⟨hn, h.2.off ho fun g hg hm => hd.2.2 g hm g hg rfl⟩
  | v :: us, x :: xs, b :: bi, i + 1, _, b', y, h, hi, hv, hb, ho, hn, hd => by
    simp at hv hb hi
    rw [List.flatten_cons, List.nodup_append] at hd
    exact ⟨h.1.off ho fun g hg hm => hd.2.2 g hg g (mem_flat hb hm) rfl, MsR.upd h.2 hi hv hb ho hn hd.2.1⟩
theorem msC_set : ∀ {us : List Value} {xs : List MMirror} (i : Nat) (y : MMirror), us.length = xs.length → i < xs.length → msC us (xs.set i y) = (msC us xs).set (i * 2) (.int .i64 y.xQ)
  | [], [], i, _, _, hi => by simp at hi
  | u :: us, x :: xs, 0, y, h, _ => by simp [msC]
  | u :: us, x :: xs, i + 1, y, h, hi => by
    have := msC_set (us := us) (xs := xs) i y (by simpa using h) (by simpa using hi)
    rw [show (i + 1) * 2 = i * 2 + 1 + 1 by omega]
    simp [msC, this]
end Go.Proofs.Ytbmemdgeohnpnac
