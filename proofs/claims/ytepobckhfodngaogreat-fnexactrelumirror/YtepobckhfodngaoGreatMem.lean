/-
  Rows of memory that a call owns, with the blocks in which they lie; rows that are read; worlds that are alike off some blocks. Nothing of the program is named here.
-/
import Derived.Test.YtepobckhfodngaoGreatBase
namespace Go.Proofs.YtepobckhfodngaoGreat
open Go.ChangeShapes Go.WideShapes Go.ChangeAt Go.RowKit

/-- v is a slice of n elements ('size' cells of type e each) that own the cells xs; its block is the one in bs (none: it is nil) -/
def Own (w : World) (e : TypeId) (size : Nat) (v : Value) (n : Nat) (xs : List Value) (bs : List Nat) : Prop :=
  xs.length = n * size ∧ ((v = .slice none 0 0 ∧ n = 0 ∧ bs = []) ∨ ∃ g cap cur, bs = [g] ∧ v = .slice (some ⟨g, 0, none⟩) n cap ∧ w.heap[g]? = some (.cells cur e (0, 0)) ∧ n ≤ cap ∧ cap ≤ maxLen ∧ cur.size = cap * size ∧ cur.toList.take (n * size) = xs)

theorem Own.of_owns {w : World} {base : Nat} {e : TypeId} {size : Nat} {v : Value} {n : Nat} {xs : List Value} (h : w.ownsRow base e size v n xs) : ∃ bs, Own w e size v n xs bs ∧ ∀ g ∈ bs, base ≤ g := by
  obtain ⟨h1, h2⟩ := h
  rcases h2 with ⟨rfl, rfl⟩ | ⟨g, cap, cur, rfl, hb, r⟩
  · exact ⟨[], ⟨h1, .inl ⟨rfl, rfl, rfl⟩⟩, fun g hg => by cases hg⟩
  · exact ⟨[g], ⟨h1, .inr ⟨g, cap, cur, rfl, rfl, r⟩⟩, fun x hx => by simp at hx; omega⟩

theorem Own.owns {w : World} {e : TypeId} {size : Nat} {v : Value} {n : Nat} {xs : List Value} {bs : List Nat} (h : Own w e size v n xs bs) {base : Nat} (hb : ∀ g ∈ bs, base ≤ g) : w.ownsRow base e size v n xs := by
  obtain ⟨h1, h2⟩ := h
  rcases h2 with ⟨rfl, rfl, rfl⟩ | ⟨g, cap, cur, rfl, rfl, r⟩
  · exact ⟨h1, .inl ⟨rfl, rfl⟩⟩
  · exact ⟨h1, .inr ⟨g, cap, cur, rfl, hb g (by simp), r⟩⟩

theorem Own.lt {w : World} {e : TypeId} {size : Nat} {v : Value} {n : Nat} {xs : List Value} {bs : List Nat} (h : Own w e size v n xs bs) : ∀ g ∈ bs, g < w.heap.size := by
  obtain ⟨_, h2⟩ := h
  rcases h2 with ⟨rfl, rfl, rfl⟩ | ⟨g, cap, cur, rfl, rfl, hg, _⟩
  · intro g hg; cases hg
  · intro x hx
    simp at hx
    subst hx
    exact (Array.getElem?_eq_some_iff.1 hg).1

theorem Own.frame {w w' : World} {e : TypeId} {size : Nat} {v : Value} {n : Nat} {xs : List Value} {bs : List Nat} (h : Own w e size v n xs bs) (k : ∀ g ∈ bs, w'.heap[g]? = w.heap[g]?) : Own w' e size v n xs bs := by
  obtain ⟨h1, h2⟩ := h
  rcases h2 with ⟨rfl, rfl, rfl⟩ | ⟨g, cap, cur, rfl, rfl, hg, r⟩
  · exact ⟨h1, .inl ⟨rfl, rfl, rfl⟩⟩
  · exact ⟨h1, .inr ⟨g, cap, cur, rfl, rfl, by rw [k g (by simp)]; exact hg, r⟩⟩

theorem Own.below {B : Nat} {w w' : World} {e : TypeId} {size : Nat} {v : Value} {n : Nat} {xs : List Value} {bs : List Nat} (h : Own w e size v n xs bs) (hb : Below B w w') (k : ∀ g ∈ bs, g < B) : Own w' e size v n xs bs :=
  h.frame fun g hg => hb.block g (k g hg)

theorem Own.keep {w w' : World} {e : TypeId} {size : Nat} {v : Value} {n : Nat} {xs : List Value} {bs : List Nat} (h : Own w e size v n xs bs) (hb : Below w.heap.size w w') : Own w' e size v n xs bs := h.below hb h.lt

theorem Own.alloc {w : World} {e : TypeId} {size : Nat} {v : Value} {n : Nat} {xs : List Value} {bs : List Nat} (h : Own w e size v n xs bs) (o : Obj) : Own (w.alloc o) e size v n xs bs :=
  h.keep ((Below.refl _ _).alloc (Nat.le_refl _) _)

theorem Own.setOther {w : World} {e : TypeId} {size : Nat} {v : Value} {n : Nat} {xs : List Value} {bs : List Nat} (h : Own w e size v n xs bs) (a : Addr) (u : Value) (k : a.block ∉ bs) : Own (w.setCell a u) e size v n xs bs :=
  h.frame fun g hg => Below.heap_setCell _ _ _ _ (fun e => k (by rw [← e]; exact hg))

theorem Own.made (w : World) (e : TypeId) (size : Nat) (cs : Array Value) (n : Nat) (hm : n ≤ maxLen) (hs : cs.size = n * size) : Own (w.alloc (.cells cs e)) e size (.slice (some ⟨w.heap.size, 0, none⟩) n n) n cs.toList [w.heap.size] :=
  ⟨by simpa using hs, .inr ⟨w.heap.size, n, cs, rfl, rfl, heap_alloc_new w _, Nat.le_refl _, hm, hs, List.take_of_length_le (by rw [Array.length_toList, hs]; exact Nat.le_refl _)⟩⟩

theorem Own.le {w : World} {e : TypeId} {size : Nat} {v : Value} {n : Nat} {xs : List Value} {bs : List Nat} (h : Own w e size v n xs bs) : n ≤ maxLen := by
  rcases h.2 with ⟨_, rfl, _⟩ | ⟨g, cap, cur, _, _, _, h1, h2, _⟩
  · exact Nat.zero_le _
  · exact Nat.le_trans h1 h2

/-- the value's shape, where it is not empty -/
theorem Own.shape {w : World} {e : TypeId} {size : Nat} {v : Value} {n : Nat} {xs : List Value} {bs : List Nat} (h : Own w e size v n xs bs) (hn : 0 < n) : ∃ g cap, bs = [g] ∧ v = .slice (some ⟨g, 0, none⟩) n cap ∧ n ≤ cap ∧ cap ≤ maxLen := by
  rcases h.2 with ⟨_, rfl, _⟩ | ⟨g, cap, cur, h1, h2, _, h3, h4, _⟩
  · omega
  · exact ⟨g, cap, h1, h2, h3, h4⟩

theorem Own.value {w : World} {e : TypeId} {size : Nat} {v : Value} {n : Nat} {xs : List Value} {bs : List Nat} (h : Own w e size v n xs bs) : ∃ a cap, v = .slice a n cap := by
  rcases h.2 with ⟨rfl, rfl, _⟩ | ⟨g, cap, cur, h1, h2, _, h3, h4, _⟩
  · exact ⟨_, _, rfl⟩
  · exact ⟨_, _, h2⟩

theorem Own.cell {w : World} {e : TypeId} {size : Nat} {g n cap : Nat} {xs : List Value} {bs : List Nat} (h : Own w e size (.slice (some ⟨g, 0, none⟩) n cap) n xs bs) (j : Nat) (hj : j < n * size) : w.cell? ⟨g, j, none⟩ = xs[j]? :=
  World.ownsRow.cellAt (h.owns (base := 0) (fun _ _ => Nat.zero_le _)) j hj

theorem Own.frozen {w : World} {e : TypeId} {size : Nat} {g n cap : Nat} {xs : List Value} {bs : List Nat} (h : Own w e size (.slice (some ⟨g, 0, none⟩) n cap) n xs bs) (j : Nat) : w.frozen? ⟨g, j, none⟩ = false :=
  World.ownsRow.frozenAt (h.owns (base := 0) (fun _ _ => Nat.zero_le _)) j

theorem Own.set {w : World} {e : TypeId} {size : Nat} {g n cap : Nat} {xs : List Value} (h : Own w e size (.slice (some ⟨g, 0, none⟩) n cap) n xs [g]) (j : Nat) (u : Value) : Own (w.setCell ⟨g, j, none⟩ u) e size (.slice (some ⟨g, 0, none⟩) n cap) n (xs.set j u) [g] := by
  obtain ⟨bs, h1, h2⟩ := Own.of_owns ((h.owns (base := g) (fun x hx => by simp at hx; omega)).stored j u).1
  have : bs = [g] := by
    rcases h1.2 with ⟨k, _⟩ | ⟨g', cap', cur, rfl, k, _⟩
    · cases k
    · simp at k; rw [k.1]
  rw [← this]
  exact h1

/-- v is a slice that reads the numbers xs, of kind k -/
def Reads (w : World) (k : IntKind) (v : Value) (xs : List Int) : Prop :=
  ∃ a cap, v = .slice a xs.length cap ∧ xs.length ≤ maxLen ∧ (xs ≠ [] → ∃ b off, a = some ⟨b, off, none⟩ ∧ b < w.heap.size ∧ ∀ i, i < xs.length → w.cell? ⟨b, off + i, none⟩ = some (.int k (xs.getD i 0)))

theorem Reads.below {w w' : World} {k : IntKind} {v : Value} {xs : List Int} (h : Reads w k v xs) (hb : Below w.heap.size w w') : Reads w' k v xs := by
  obtain ⟨a, cap, rfl, hm, hr⟩ := h
  refine ⟨a, cap, rfl, hm, fun hx => ?_⟩
  obtain ⟨b, off, rfl, hlt, hc⟩ := hr hx
  exact ⟨b, off, rfl, Nat.lt_of_lt_of_le hlt hb.size, fun i hi => (hb.cell (p := ⟨b, off + i, none⟩) hlt).trans (hc i hi)⟩

theorem Reads.empty (w : World) (k : IntKind) (a : Option Addr) (cap : Nat) : Reads w k (.slice a 0 cap) [] := ⟨a, cap, rfl, Nat.zero_le _, fun h => absurd rfl h⟩

/-- v is a slice of int64 that owns the numbers xs, in a block that was made for int64 -/
def IntsT (w : World) (v : Value) (xs : List Int) (bs : List Nat) : Prop := Own w 2 1 v xs.length (xs.map (Value.int .i64)) bs

theorem Own.reads {w : World} {e : TypeId} {v : Value} {xs : List Int} {bs : List Nat} (h : Own w e 1 v xs.length (xs.map (Value.int .i64)) bs) : Reads w .i64 v xs := by
  obtain ⟨a, cap, hv⟩ := Own.value h
  refine ⟨a, cap, hv, Own.le h, fun hx => ?_⟩
  obtain ⟨g, c, hbs, hv', _, _⟩ := Own.shape h (List.length_pos_iff.2 hx)
  have hl := Own.lt h
  subst hv'
  simp at hv
  obtain ⟨rfl, rfl⟩ := hv
  refine ⟨g, 0, rfl, hl g (by rw [hbs]; simp), fun i hi => ?_⟩
  have := Own.cell h i (by omega)
  rw [Nat.zero_add, this]
  simp [hi]

/-- v is a slice of int64 that owns the numbers xs; the block may have been made for another type (an array) -/
def Ints (w : World) (v : Value) (xs : List Int) (bs : List Nat) : Prop := ∃ e, Own w e 1 v xs.length (xs.map (Value.int .i64)) bs
theorem Ints.of {w : World} {e : TypeId} {v : Value} {xs : List Int} {bs : List Nat} (h : Own w e 1 v xs.length (xs.map (Value.int .i64)) bs) : Ints w v xs bs := ⟨e, h⟩
theorem IntsT.ints {w : World} {v : Value} {xs : List Int} {bs : List Nat} (h : IntsT w v xs bs) : Ints w v xs bs := ⟨_, h⟩
theorem Ints.reads {w : World} {v : Value} {xs : List Int} {bs : List Nat} (h : Ints w v xs bs) : Reads w .i64 v xs := by obtain ⟨e, h⟩ := h; exact Own.reads h
theorem Ints.keep {w w' : World} {v : Value} {xs : List Int} {bs : List Nat} (h : Ints w v xs bs) (hb : Below w.heap.size w w') : Ints w' v xs bs := by obtain ⟨e, h⟩ := h; exact ⟨e, h.keep hb⟩
theorem Ints.frame {w w' : World} {v : Value} {xs : List Int} {bs : List Nat} (h : Ints w v xs bs) (k : ∀ g ∈ bs, w'.heap[g]? = w.heap[g]?) : Ints w' v xs bs := by obtain ⟨e, h⟩ := h; exact ⟨e, h.frame k⟩
theorem Ints.lt {w : World} {v : Value} {xs : List Int} {bs : List Nat} (h : Ints w v xs bs) : ∀ g ∈ bs, g < w.heap.size := by obtain ⟨e, h⟩ := h; exact h.lt
theorem Ints.le {w : World} {v : Value} {xs : List Int} {bs : List Nat} (h : Ints w v xs bs) : xs.length ≤ maxLen := by obtain ⟨e, h⟩ := h; exact h.le
theorem Ints.alloc {w : World} {v : Value} {xs : List Int} {bs : List Nat} (h : Ints w v xs bs) (o : Obj) : Ints (w.alloc o) v xs bs := by obtain ⟨e, h⟩ := h; exact ⟨e, h.alloc o⟩
theorem Ints.value {w : World} {v : Value} {xs : List Int} {bs : List Nat} (h : Ints w v xs bs) : ∃ a cap, v = .slice a xs.length cap := by obtain ⟨e, h⟩ := h; exact h.value
theorem Ints.shape {w : World} {v : Value} {xs : List Int} {bs : List Nat} (h : Ints w v xs bs) (hn : 0 < xs.length) : ∃ g cap, bs = [g] ∧ v = .slice (some ⟨g, 0, none⟩) xs.length cap ∧ xs.length ≤ cap ∧ cap ≤ maxLen := by obtain ⟨e, h⟩ := h; exact h.shape hn
theorem Ints.setOther {w : World} {v : Value} {xs : List Int} {bs : List Nat} (h : Ints w v xs bs) (a : Addr) (u : Value) (k : a.block ∉ bs) : Ints (w.setCell a u) v xs bs := by obtain ⟨e, h⟩ := h; exact ⟨e, h.setOther a u k⟩
theorem Ints.drew {bs : List Nat} {w : World} {v : Value} {xs : List Int} (h : Ints w v xs bs) : Ints w.drew v xs bs := h
theorem Ints.nil (w : World) : Ints w (.slice none 0 0) [] [] := ⟨2, rfl, .inl ⟨rfl, rfl, rfl⟩⟩
theorem Ints.nodup {w : World} {v : Value} {xs : List Int} {bs : List Nat} (h : Ints w v xs bs) : bs.Nodup := by
  obtain ⟨e, h⟩ := h
  rcases h.2 with ⟨_, _, rfl⟩ | ⟨g, _, _, rfl, _⟩
  · exact List.nodup_nil
  · simp

/-- all blocks that were there are as they were, but those in bs -/
structure Off (bs : List Nat) (w w' : World) : Prop where
  os : w'.os = w.os
  tape : w'.tape = w.tape
  output : w'.output = w.output
  size : w.heap.size ≤ w'.heap.size
  block : ∀ k, k < w.heap.size → k ∉ bs → w'.heap[k]? = w.heap[k]?

theorem Off.refl (bs : List Nat) (w : World) : Off bs w w := ⟨rfl, rfl, rfl, Nat.le_refl _, fun _ _ _ => rfl⟩
theorem Off.trans {bs : List Nat} {a b c : World} (h : Off bs a b) (k : Off bs b c) : Off bs a c :=
  ⟨k.os.trans h.os, k.tape.trans h.tape, k.output.trans h.output, Nat.le_trans h.size k.size, fun i hi hn => (k.block i (Nat.lt_of_lt_of_le hi h.size) hn).trans (h.block i hi hn)⟩
theorem Off.mono {bs cs : List Nat} {a b : World} (h : Off bs a b) (k : ∀ g ∈ bs, g ∈ cs) : Off cs a b := ⟨h.os, h.tape, h.output, h.size, fun i hi hn => h.block i hi (fun hm => hn (k i hm))⟩
theorem Off.ofBelow {bs : List Nat} {a b : World} (h : Below a.heap.size a b) : Off bs a b := ⟨h.os, h.tape, h.output, h.size, fun i hi _ => h.block i hi⟩
theorem Off.toBelow {bs : List Nat} {a b : World} {B : Nat} (h : Off bs a b) (hB : B ≤ a.heap.size) (k : ∀ g ∈ bs, B ≤ g) : Below B a b :=
  ⟨h.os, h.tape, h.output, h.size, fun i hi => h.block i (Nat.lt_of_lt_of_le hi hB) (fun hm => by have := k i hm; omega)⟩
theorem Off.drew {bs : List Nat} {a b : World} (h : Off bs a b) : Off bs a b.drew := ⟨h.os, h.tape, h.output, h.size, h.block⟩
theorem Off.alloc {bs : List Nat} {a b : World} (h : Off bs a b) (o : Obj) : Off bs a (b.alloc o) := h.trans (Off.ofBelow ((Below.refl _ _).alloc (Nat.le_refl _) _))
theorem Off.setCell {bs : List Nat} {a b : World} (h : Off bs a b) (p : Addr) (u : Value) (hp : p.block ∈ bs ∨ a.heap.size ≤ p.block) : Off bs a (b.setCell p u) :=
  ⟨h.os, h.tape, h.output, by simpa [World.setCell] using h.size, fun i hi hn => by
    rw [Below.heap_setCell _ _ _ _ (fun e => by rcases hp with hp | hp; exact hn (e ▸ hp); omega)]; exact h.block i hi hn⟩
theorem Own.off {bs cs : List Nat} {w w' : World} {e : TypeId} {size : Nat} {v : Value} {n : Nat} {xs : List Value} (h : Own w e size v n xs bs) (hb : Off cs w w') (k : ∀ g ∈ bs, g ∉ cs) : Own w' e size v n xs bs :=
  h.frame fun g hg => hb.block g (h.lt g hg) (k g hg)
theorem Ints.off {bs cs : List Nat} {w w' : World} {v : Value} {xs : List Int} (h : Ints w v xs bs) (hb : Off cs w w') (k : ∀ g ∈ bs, g ∉ cs) : Ints w' v xs bs := by obtain ⟨e, h⟩ := h; exact ⟨e, h.off hb k⟩
theorem Off.at {bs : List Nat} {w w' : World} (h : Off bs w w') (b : Nat) (hb : b < w.heap.size) (hn : b ∉ bs) : (∀ o, w'.cell? ⟨b, o, none⟩ = w.cell? ⟨b, o, none⟩) ∧ (∀ o, w'.frozen? ⟨b, o, none⟩ = w.frozen? ⟨b, o, none⟩) :=
  ⟨fun o => World.cell?_of_block (w := w) (a := ⟨b, o, none⟩) (h.block b hb hn), fun o => World.frozen?_of_block (w := w) (a := ⟨b, o, none⟩) (h.block b hb hn)⟩

/-- block b holds just the cells cs -/
def Blk (w : World) (b : Nat) (T : TypeId) (cs : Array Value) : Prop := w.heap[b]? = some (.cells cs T (0, 0))
theorem Blk.new (w : World) (T : TypeId) (cs : Array Value) : Blk (w.alloc (.cells cs T)) w.heap.size T cs := heap_alloc_new w _
theorem Blk.lt {w : World} {b : Nat} {T : TypeId} {cs : Array Value} (h : Blk w b T cs) : b < w.heap.size := (Array.getElem?_eq_some_iff.1 h).1
theorem Blk.off {w w' : World} {b : Nat} {T : TypeId} {cs : Array Value} {bs : List Nat} (h : Blk w b T cs) (k : Off bs w w') (hn : b ∉ bs) : Blk w' b T cs := (k.block b h.lt hn).trans h
theorem Blk.keep {w w' : World} {b : Nat} {T : TypeId} {cs : Array Value} (h : Blk w b T cs) (k : Below w.heap.size w w') : Blk w' b T cs := (k.block b h.lt).trans h
theorem Blk.below {B : Nat} {w w' : World} {b : Nat} {T : TypeId} {cs : Array Value} (h : Blk w b T cs) (k : Below B w w') (hb : b < B) : Blk w' b T cs := (k.block b hb).trans h
theorem Blk.alloc {w : World} {b : Nat} {T : TypeId} {cs : Array Value} (h : Blk w b T cs) (o : Obj) : Blk (w.alloc o) b T cs := (Below.heap_alloc w o b h.lt).trans h
theorem Blk.drew {w : World} {b : Nat} {T : TypeId} {cs : Array Value} (h : Blk w b T cs) : Blk w.drew b T cs := h
theorem Blk.set {w : World} {b : Nat} {T : TypeId} {cs : Array Value} (h : Blk w b T cs) (j : Nat) (u : Value) : Blk (w.setCell ⟨b, j, none⟩ u) b T (cs.setIfInBounds j u) := heap_setCell_same w b j cs T u h
theorem Blk.setOther {w : World} {b : Nat} {T : TypeId} {cs : Array Value} (h : Blk w b T cs) (a : Addr) (u : Value) (hn : b ≠ a.block) : Blk (w.setCell a u) b T cs := (Below.heap_setCell _ _ _ _ hn).trans h
theorem Blk.at {w : World} {b : Nat} {T : TypeId} {cs : Array Value} (h : Blk w b T cs) : (∀ o, w.cell? ⟨b, o, none⟩ = cs[o]?) ∧ (∀ o, w.frozen? ⟨b, o, none⟩ = false) :=
  ⟨fun o => by rw [cell_of_row w b o cs T (0, 0) h], fun o => frozen_of_row w b o cs T h⟩

/-- a slice of integers that came in: it is nil, or it leads to a row of 'cap' cells, the numbers zs -/
def IsRow (k : IntKind) (w : World) (a : Option Addr) (len cap : Nat) (zs : List Int) : Prop :=
  (a = none ∧ len = 0 ∧ cap = 0 ∧ zs = []) ∨
  ∃ x, a = some x ∧ len ≤ cap ∧ cap ≤ maxLen ∧ zs.length = cap ∧ (∀ i, i < zs.length → w.cell? (x.add i) = some (.int k (zs.getD i 0))) ∧ ∀ n ∈ zs, (Lit.int k n).wf = true

theorem cell_lt {w : World} {a : Addr} {v : Value} (h : w.cell? a = some v) : a.block < w.heap.size := by
  rcases Nat.lt_or_ge a.block w.heap.size with k | k
  · exact k
  · have : w.heap[a.block]? = none := Array.getElem?_eq_none k
    simp [World.cell?, this] at h

theorem IsRow.reads {k : IntKind} {w : World} {a : Option Addr} {len cap : Nat} {zs : List Int} (h : IsRow k w a len cap zs) : ∃ xs, xs.length = len ∧ Reads w k (.slice a len cap) xs ∧ ∀ n ∈ xs, (Lit.int k n).wf = true := by
  rcases h with ⟨rfl, rfl, rfl, rfl⟩ | ⟨x, rfl, hl, hm, hz, hc, hw⟩
  · exact ⟨[], rfl, Reads.empty _ _ _ _, fun n hn => by cases hn⟩
  · have hlen : (zs.take len).length = len := by simp; omega
    refine ⟨zs.take len, hlen, ⟨some x, cap, by rw [hlen], by omega, fun hx => ?_⟩, fun n hn => hw n (List.mem_of_mem_take hn)⟩
    have h0 : 0 < len := by rw [← hlen]; exact List.length_pos_iff.2 hx
    have hc0 := hc 0 (by omega)
    obtain ⟨b, off, spot⟩ := x
    have hspot : spot = none := by simpa [Addr.add] using World.cell?_spot hc0
    subst hspot
    refine ⟨b, off, rfl, by simpa [Addr.add] using cell_lt hc0, fun i hi => ?_⟩
    have := hc i (by omega)
    have ea : (⟨b, off, none⟩ : Addr).add i = ⟨b, off + i, none⟩ := by
      by_cases hi0 : i = 0
      · subst hi0; simp [Addr.add]
      · simp [Addr.add, hi0]
    rw [ea] at this
    rw [this]
    have hi' : i < len := by omega
    simp [hi']
theorem kcell {w w' : World} {a : Addr} {v : Value} (h : w.cell? a = some v) (hb : Below w.heap.size w w') : w'.cell? a = some v := (hb.cell (cell_lt h)).trans h
end Go.Proofs.YtepobckhfodngaoGreat
