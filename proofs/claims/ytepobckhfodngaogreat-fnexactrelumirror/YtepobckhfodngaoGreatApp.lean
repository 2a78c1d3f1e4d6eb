/-
  append onto a row that is owned, its blocks told: at a plain region, and as a step of a region that draws its order.
-/
import Derived.Test.YtepobckhfodngaoGreatTy
import Derived.Deep.AppendLies
import Derived.Deep.RegionLaw
namespace Go.Proofs.YtepobckhfodngaoGreat
open Go.ChangeShapes Go.WideShapes Go.ChangeAt Go.RowKit
set_option linter.unusedVariables false

theorem off_of_grown {w w' : World} {e : TypeId} {size : Nat} {v : Value} {n : Nat} {xs : List Value} {bs : List Nat} (h : Own w e size v n xs bs) (hg : w.grownBy w' v.ownBlock) : Off bs w w' := by
  have hb := (Below.refl 0 w).grown hg (Nat.zero_le _) (fun _ _ => Nat.zero_le _)
  refine ⟨hb.os, hb.tape, hb.output, hb.size, fun k hk hn => hg.block k hk ?_⟩
  rcases h.2 with ⟨rfl, _, rfl⟩ | ⟨g, cap, cur, rfl, rfl, _⟩
  · simp [Value.ownBlock]
  · simp [Value.ownBlock] at hn ⊢; exact hn
theorem own_of_lies {w : World} {e : TypeId} {size n g cap : Nat} {xs : List Value} (h : w.ownsRow 0 e size (.slice (some ⟨g, 0, none⟩) n cap) n xs) : Own w e size (.slice (some ⟨g, 0, none⟩) n cap) n xs [g] := by
  obtain ⟨bs, h1, _⟩ := Own.of_owns h
  have : bs = [g] := by
    rcases h1.2 with ⟨k, _⟩ | ⟨g', cap', cur, rfl, k, _⟩
    · cases k
    · simp at k; rw [k.1]
  rw [← this]; exact h1
theorem lies_at {w : World} {e : TypeId} {size : Nat} {v : Value} {n : Nat} {xs : List Value} {bs : List Nat} {g : Nat} (h : Own w e size v n xs bs) (k : v.ownBlock = some g ∨ g = w.heap.size) : bs = [g] ∨ w.heap.size ≤ g := by
  rcases k with k | k
  · rcases h.2 with ⟨rfl, _, rfl⟩ | ⟨g', cap, cur, rfl, rfl, _⟩
    · simp [Value.ownBlock] at k
    · simp [Value.ownBlock] at k; exact .inl (by rw [k])
  · exact .inr (by omega)
theorem step_append_Own {P : Program} {w : World} {ops : Array Oper} {o : Oper} {a : Act} {K : Act → World → Prop} {Q : Exit → Act → World → Prop} {E : Prop} (hgd : o.guard = none) (s x : Operand) (t : TypeId)
    (ho : o.op = .call { callee := .builtin .append, args := #[s, x], argTypes := #[t, t] })
    (e : TypeId) (i : TypeInfo) (z : Value) (size bytes : Nat) (ht : P.underlying t = some (.slice e)) (hi : P.info? e = some i) (hz : i.zero = some z)
    (hsize : i.size = size) (hby : i.bytes = bytes) (hzs : z.cells.size = size) (hsz : 0 < size)
    (v : Value) (n : Nat) (xs : List Value) (bs : List Nat) (hs : a.eval s = v) (hown : Own w e size v n xs bs)
    (ad : Addr) (m c : Nat) (news : List Value) (hx : a.eval x = .slice (some ad) m c) (hl : news.length = m * size) (hnews : ∀ j u, news[j]? = some u → w.cell? (ad.add j) = some u) (h1 : ∀ u ∈ news, u.oneCell' = true)
    (hm : 0 < m) (h63 : n + m ≤ maxLen) (hbytes : (n + m) * bytes ≤ 140737488355328)
    (h : ∀ g cap w', Own w' e size (.slice (some ⟨g, 0, none⟩) (n + m) cap) (n + m) (xs ++ news) [g] → Off bs w w' → (bs = [g] ∨ w.heap.size ≤ g) → K (a.put o.dst (.slice (some ⟨g, 0, none⟩) (n + m) cap)) w') :
    if Region.wanted o (yielded ops a.tmps) = true then Oper.wp P o a w K Q else E :=
  step_append_lies w hgd s x t ho 0 e i z size bytes ht hi hz hsize hby hzs hsz v n xs hs (hown.owns (fun _ _ => Nat.zero_le _)) ad m c news hx hl hnews h1 hm h63 hbytes (Nat.zero_le _) _ rfl
    (fun g cap w' h2 h3 h4 _ => h g cap w' (own_of_lies h2) (off_of_grown hown h3) (lies_at hown h4))
theorem wpList_append_Own {P : Program} {w : World} {ops : Array Oper} {rest : List Oper} {o : Oper} {a : Act} {Q : Exit → Act → World → Prop} (hgd : o.guard = none) (s x : Operand) (t : TypeId)
    (ho : o.op = .call { callee := .builtin .append, args := #[s, x], argTypes := #[t, t] })
    (e : TypeId) (i : TypeInfo) (z : Value) (size bytes : Nat) (ht : P.underlying t = some (.slice e)) (hi : P.info? e = some i) (hz : i.zero = some z)
    (hsize : i.size = size) (hby : i.bytes = bytes) (hzs : z.cells.size = size) (hsz : 0 < size)
    (v : Value) (n : Nat) (xs : List Value) (bs : List Nat) (hs : a.eval s = v) (hown : Own w e size v n xs bs)
    (ad : Addr) (m c : Nat) (news : List Value) (hx : a.eval x = .slice (some ad) m c) (hl : news.length = m * size) (hnews : ∀ j u, news[j]? = some u → w.cell? (ad.add j) = some u) (h1 : ∀ u ∈ news, u.oneCell' = true)
    (hm : 0 < m) (h63 : n + m ≤ maxLen) (hbytes : (n + m) * bytes ≤ 140737488355328)
    (h : ∀ g cap w', Own w' e size (.slice (some ⟨g, 0, none⟩) (n + m) cap) (n + m) (xs ++ news) [g] → Off bs w w' → (bs = [g] ∨ w.heap.size ≤ g) → wpList P ops Q rest (a.put o.dst (.slice (some ⟨g, 0, none⟩) (n + m) cap)) w') :
    wpList P ops Q (o :: rest) a w :=
  wpList_append_lies w hgd s x t ho 0 e i z size bytes ht hi hz hsize hby hzs hsz v n xs hs (hown.owns (fun _ _ => Nat.zero_le _)) ad m c news hx hl hnews h1 hm h63 hbytes (Nat.zero_le _) _ rfl
    (fun g cap w' h2 h3 h4 _ => h g cap w' (own_of_lies h2) (off_of_grown hown h3) (lies_at hown h4))
theorem one_new {w : World} {b : Nat} {T : TypeId} {u : Value} (h : Blk w b T #[u]) : ∀ j x, [u][j]? = some x → w.cell? ((⟨b, 0, none⟩ : Addr).add j) = some x := World.news_of_block h
theorem Rows.push {W w3 : World} {vs : List Value} {xs : List (List Int)} {bi : List (List Nat)} {u : Value} {ys : List Int} {bs bo : List Nat} {g : Nat} (hR : Rows W vs xs bi) (hI : Ints W u ys bs) (hoff : Off bo W w3) (hnd : (bo ++ bi.flatten).Nodup)
    (hd : Dj bs (bo ++ bi.flatten)) (hbn : bs.Nodup) (hg : bo = [g] ∨ W.heap.size ≤ g) : Rows w3 (vs ++ [u]) (xs ++ [ys]) (bi ++ [bs]) ∧ ([g] ++ (bi ++ [bs]).flatten).Nodup := by
  obtain ⟨n1, n2, n3⟩ := List.nodup_append.1 hnd
  refine ⟨Rows.snoc (hR.off hoff fun x hx hm => n3 x hm x hx rfl) (hI.off hoff fun x hx hm => hd x hx (List.mem_append_left _ hm)), ?_⟩
  simp only [List.flatten_append, List.flatten_cons, List.flatten_nil, List.append_nil]
  have hgi : g ∉ bi.flatten := by
    rcases hg with rfl | hg
    · intro hm; exact n3 g (by simp) g hm rfl
    · intro hm; have := hR.lt g hm; omega
  have hgs : g ∉ bs := by
    rcases hg with rfl | hg
    · intro hm; exact hd g hm (by simp)
    · intro hm; have := hI.lt g hm; omega
  refine List.nodup_append.2 ⟨by simp, List.nodup_append.2 ⟨n2, hbn, ?_⟩, ?_⟩
  · intro x hx y hy e
    exact hd y hy (List.mem_append_right _ (e ▸ hx))
  · intro x hx y hy e
    simp at hx
    subst hx
    rcases List.mem_append.1 hy with hy | hy
    · exact hgi (e ▸ hy)
    · exact hgs (e ▸ hy)
end Go.Proofs.YtepobckhfodngaoGreat
